import PyProof.Rows.All
import PySem.Challenge.RW_evenboxes_k25_sharing_refused
import Wide.All
import OpenK.AllK
import Wide.FinOn
import KE.KStateDown
import Lean
import HandS.ForMost
import HandS.Exc
import HandS.WordsExc
import HandS.Defaults
import HandS.IsInst
import HandS.Gcd
import HandS.FStr
import HandS.Wide
import HandS.Style
import HandS.TupAny
import HandS.Walk
import HandS.Head0
import HandS.Head1
import HandS.Head2
import HandS.Head3
import HandS.HeadEnd
import HandS.HeadHook1
import HandS.HeadHook2
import HandS.ForSpec
import HandS.ExcOwn
import HandS.RaiseMore
import KE.OsGo
import HandS.HeadHook4
import KE.KIsAll
import KE.KTryMore
import KE.KExcIs
import HandS.HeadWalk
import KE.GoesEnum
import KE.GoesMore
import OpenK.KMeth
import HandS.SlotsOwn
import HandS.More
import KE.KSorted
import KE.KMinKey
import HandS.SortKw
import HandS.SetFor
import HandS.Strs
import HandS.Property
import HandS.WideBits
import HandS.Lambda
import HandS.HotCalls
import KE.DataFind
import HandS.Deep
import HandS.MakeKwOnly
import HandS.MakeKw
import HandS.Small
import PyProof.Rows.Range3
import HandS.OwnEq
import PyProof.NeKinds
set_option Elab.async false
set_option linter.all false
set_option maxRecDepth 100000
set_option maxHeartbeats 0
/-! A prelude of our own over the hand layer: callees by name, heaps that grow, typed values, comprehensions and loops in short. -/
namespace Z
open PySem PySem.Spec PyProof.Rows L2
/-! ### defs and callees by name -/
section
variable {P : Program} {w : World} {K : PySem.W.Frag} {mg : Str → Option Value} {base : Heap}
structure Df (K : PySem.W.Frag) (mg : Str → Option Value) (x : Str) (st : Stmt) : Prop where
  ex : ∃ f fd, mg x = some (.ref f) ∧ FunD K x x (defArgs st) (defBody st) (defScope st) [] [] f fd
structure Cal (P : Program) (w : World) (K : PySem.W.Frag) (mg : Str → Option Value) (base : Heap) (k : Nat) (x : Str) (ps : List Str) (sp : Sp) : Prop where
  ex : ∃ f fd, mg x = some (.ref f) ∧ PySem.W.keepIn K (.ref f) = true ∧ Binds K fd ps [] ∧ FnOk P w K mg base (L2.CX P w) k f fd ps sp
/-- a method's def at the class C -/
structure Dm (K : PySem.W.Frag) (C : Addr) (m q : Str) (st : Stmt) : Prop where
  ex : ∃ f fd, Cls K C ∧ Meth K C m f ∧ FunD K m q (defArgs st) (defBody st) (defScope st) [] [] f fd
structure Mtd (P : Program) (w : World) (K : PySem.W.Frag) (mg : Str → Option Value) (base : Heap) (k : Nat) (C : Addr) (m : Str) (ps : List Str) (sp : Sp) : Prop where
  ex : ∃ f fd, Cls K C ∧ Meth K C m f ∧ Binds K fd ps [] ∧ FnOk P w K mg base (L2.CX P w) k f fd ps sp
/-- a class's maker -/
structure Di (K : PySem.W.Frag) (mg : Str → Option Value) (x q : Str) (C : Addr) (st : Stmt) : Prop where
  ex : ∃ f fd, mg x = some (.ref C) ∧ Mk K C f ∧ FunD K "__init__" q (defArgs st) (defBody st) (defScope st) [] [] f fd
structure Mkr (P : Program) (w : World) (K : PySem.W.Frag) (mg : Str → Option Value) (base : Heap) (k : Nat) (x : Str) (C : Addr) (ps : List Str) (sp : Sp) : Prop where
  ex : ∃ f fd, mg x = some (.ref C) ∧ Mk K C f ∧ Binds K fd ps [] ∧ FnOk P w K mg base (L2.CX P w) k f fd ps sp
/-- a body that lets nothing out -/
abbrev Body (P : Program) (w : World) (K : PySem.W.Frag) (mg : Str → Option Value) (base : Heap) (k : Nat) (q : Str) (N : List Str) (st : Stmt) (sp : Sp) : Prop :=
  ∀ (f : Addr) (cdv : Value) (A : Around) (outer : List Env) (s : Shared) (H : Hp) (vs : List V) (Q : VK) (E : XK), Room k (A.deeper (envOfC q (defScope st) s.heap.objs.size f cdv)) → sp vs H Q E →
    ∃ t, PSs (cxOf (L2.CX P w) P w K mg base N q (defScope st) f cdv A outer s H E).nox (defBody st) t ∧ t { nx := fun _ H' => Q .non H', rt := Q } (start N vs) H
abbrev Bnd (x q : Str) (st : Stmt) (ps : List Str) : Prop :=
  ∀ (kV doc pm : Value) (an : Option Addr) (cdv ct : Value) (us : List Value), us.length = ps.length → bindArgs (PySem.W.fnOf x q (defArgs st) (defBody st) (defScope st) .none kV doc pm an cdv ct) ⟨us, []⟩ = pure (ps.zip us)
theorem Df.cal {x : Str} {st : Stmt} {N ps : List Str} {k : Nat} {sp : Sp} (D : Df K mg x st) (S : FnScope N ps (defScope st)) (hb : Bnd x x st ps) (len : ∀ vs H Q E, sp vs H Q E → vs.length = ps.length)
    (body : Body P w K mg base k x N st sp) : Cal P w K mg base (k + 1) x ps sp := by
  obtain ⟨f, fd, hm, F⟩ := D.ex
  refine ⟨f, fd, hm, F.kp, F.bindsN hb, F.ok S len fun cdv A outer s H vs Q E hr h => ?_⟩
  obtain ⟨t, h1, h2⟩ := body f cdv A outer s H vs Q E hr h
  exact ⟨t, h1.nox, h2⟩
theorem Dm.mtd {C : Addr} {m q : Str} {st : Stmt} {N ps : List Str} {k : Nat} {sp : Sp} (D : Dm K C m q st) (S : FnScope N ps (defScope st)) (hb : Bnd m q st ps) (len : ∀ vs H Q E, sp vs H Q E → vs.length = ps.length)
    (body : Body P w K mg base k q N st sp) : Mtd P w K mg base (k + 1) C m ps sp := by
  obtain ⟨f, fd, hc, hm, F⟩ := D.ex
  refine ⟨f, fd, hc, hm, F.bindsN hb, F.ok S len fun cdv A outer s H vs Q E hr h => ?_⟩
  obtain ⟨t, h1, h2⟩ := body f cdv A outer s H vs Q E hr h
  exact ⟨t, h1.nox, h2⟩
theorem Di.mkr {C : Addr} {x q : Str} {st : Stmt} {N ps : List Str} {k : Nat} {sp : Sp} (D : Di K mg x q C st) (S : FnScope N ps (defScope st)) (hb : Bnd "__init__" q st ps) (len : ∀ vs H Q E, sp vs H Q E → vs.length = ps.length)
    (body : Body P w K mg base k q N st sp) : Mkr P w K mg base (k + 1) x C ps sp := by
  obtain ⟨f, fd, hm, hk, F⟩ := D.ex
  refine ⟨f, fd, hm, hk, F.bindsN hb, F.ok S len fun cdv A outer s H vs Q E hr h => ?_⟩
  obtain ⟨t, h1, h2⟩ := body f cdv A outer s H vs Q E hr h
  exact ⟨t, h1.nox, h2⟩
end
section
variable {X : Cx} {k j : Nat} {x m : Str} {C : Addr} {ps : List Str} {sp : Sp} {e o : Expr} {es : List Expr} {t : TA} {to : TE} {p pos apos : Pos}
theorem pe_cal (c : Cal X.prog X.w X.K X.mg X.base k x ps sp) (hr : Room j X.A) (hkj : k ≤ j) (hg : Gl X x) (ha : PA X (e :: es) t) (hdb : (x == ("__debug__" : Str)) = false := by decide)
    (he : starEach (e :: es) X.env = (false, eval e X.env) :: starEach es X.env := by rfl) (hpl : (backTo pos (starEach es X.env)).any (·.1) = false := by rfl) : PE X (.Call (.Name x p) (e :: es) [] pos) (tCall sp [] E0 t) := by
  obtain ⟨f, fd, hm, hk, hb, F⟩ := c.ex
  exact pe_call F (hr.mono hkj) hg hm hk hb .nil passL ha hdb he hpl
theorem pe_cal0 (c : Cal X.prog X.w X.K X.mg X.base k x ps sp) (hr : Room j X.A) (hkj : k ≤ j) (hg : Gl X x) (hdb : (x == ("__debug__" : Str)) = false := by decide) : PE X (.Call (.Name x p) [] [] pos) (tCall sp [] E0 tNil) := by
  obtain ⟨f, fd, hm, hk, hb, F⟩ := c.ex
  exact pe_call0 F (hr.mono hkj) hg hm hk hb .nil passL hdb
theorem pe_mk (c : Mkr X.prog X.w X.K X.mg X.base k x C ps sp) (hr : Room j X.A) (hkj : k + 1 ≤ j) (hg : Gl X x) (ha : PA X (e :: es) t) (hdb : (x == ("__debug__" : Str)) = false := by decide)
    (he : starEach (e :: es) X.env = (false, eval e X.env) :: starEach es X.env := by rfl) (hpl : (backTo pos (starEach es X.env)).any (·.1) = false := by rfl) : PE X (.Call (.Name x p) (e :: es) [] pos) (tMake C sp [] E0 t) := by
  obtain ⟨f, fd, hm, hk, hb, F⟩ := c.ex
  exact pe_make hk F (hr.mono hkj) hg hm hb .nil passL ha hdb he hpl
theorem pe_mth {pl : Sem Bool} (c : Mtd X.prog X.w X.K X.mg X.base k C m ps sp) (hr : Room j X.A) (hkj : k ≤ j) (ho : PE X o to) (ha : PA X (e :: es) t)
    (hst : starEach (e :: es) X.env = (false, eval e X.env) :: starEach es X.env := by rfl) (hpl : (backTo pos (starEach es X.env)).any (·.1) = false := by rfl)
    (ht : eval (.Call (.Attribute o m apos) (e :: es) [] pos) X.env = (do
      let ov ← eval o X.env
      standAt apos.atName
      let (f, first) ← holding [ov] (getMethod ov m pl)
      callWith pos f first (backTo pos (starEach (e :: es) X.env)) (backToKw pos (keywordEach [] X.env))) := by rfl) : PE X (.Call (.Attribute o m apos) (e :: es) [] pos) (tMeth C m sp [] E0 to t) := by
  obtain ⟨f, fd, hc, hm, hb, F⟩ := c.ex
  exact pe_meth ho hc hm F (hr.mono hkj) hb .nil passL ha hst hpl ht
theorem pe_gi {i : Int} (hg : Gl X x) (hm : ∃ t, X.mg x = some (.int i t)) (hd : (x == ("__debug__" : Str)) = false := by decide) : PE X (.Name x pos) (tC (.int i)) := by
  obtain ⟨t, h⟩ := hm
  exact pe_glob hg h ⟨t, rfl⟩ hd
theorem pe_gs {z : Str} (hg : Gl X x) (hm : ∃ t, X.mg x = some (.str z t)) (hd : (x == ("__debug__" : Str)) = false := by decide) : PE X (.Name x pos) (tC (.str z)) := by
  obtain ⟨t, h⟩ := hm
  exact pe_glob hg h ⟨t, rfl⟩ hd
end
/-- built-in names that the top leaves alone -/
structure Bl (mg : Str → Option Value) : Prop where
  isinstance_ : mg "isinstance" = none
  len_ : mg "len" = none
  all_ : mg "all" = none
  any_ : mg "any" = none
  enumerate_ : mg "enumerate" = none
  tuple_ : mg "tuple" = none
  list_ : mg "list" = none
  dict_ : mg "dict" = none
  sum_ : mg "sum" = none
  range_ : mg "range" = none
  int_ : mg "int" = none
  str_ : mg "str" = none
  bool_ : mg "bool" = none
  abs_ : mg "abs" = none
  min_ : mg "min" = none
  max_ : mg "max" = none
  divmod_ : mg "divmod" = none
  repr_ : mg "repr" = none
  sorted_ : mg "sorted" = none
  zip_ : mg "zip" = none
  reversed_ : mg "reversed" = none
  set_ : mg "set" = none
theorem small {n : Nat} (h : n ≤ 100000) : n ≤ sizeLine := Nat.le_trans h (by decide)
theorem smallt {n : Nat} (h : n < 100000) : n < sizeLine := Nat.lt_of_lt_of_le h (by decide)
/-! ### heaps that grow: all that was tracked stands; lists and instances that m names may hold other things -/
def Alt (o o' : HO) : Prop := (∃ xs ys, o = .lst xs ∧ o' = .lst ys) ∨ ∃ C dx fs fs', o = .ins C dx fs ∧ o' = .ins C dx fs'
def Gr (m : Addr → Prop) (H H' : Hp) : Prop := ∀ b o, H b = some o → H' b = some o ∨ (m b ∧ ∃ o', Alt o o' ∧ H' b = some o')
abbrev nob : Addr → Prop := fun _ => False
abbrev any : Addr → Prop := fun _ => True
abbrev Ex (H H' : Hp) : Prop := Gr nob H H'
section
variable {m n : Addr → Prop} {H H' H'' : Hp} {a b p : Addr} {o o' : HO} {K : PySem.W.Frag}
theorem Alt.trans {o1 o2 o3 : HO} (h : Alt o1 o2) (k : Alt o2 o3) : Alt o1 o3 := by
  rcases h with ⟨xs, ys, rfl, rfl⟩ | ⟨C, dx, fs, fs', rfl, rfl⟩
  · rcases k with ⟨_, zs, _, rfl⟩ | ⟨_, _, _, _, h, _⟩
    · exact .inl ⟨xs, zs, rfl, rfl⟩
    · cases h
  · rcases k with ⟨_, _, h, _⟩ | ⟨_, _, _, fs'', h, rfl⟩
    · cases h
    · cases h
      exact .inr ⟨C, dx, fs, fs'', rfl, rfl⟩
theorem Gr.refl : Gr m H H := fun _ _ h => .inl h
theorem Gr.trans (e : Gr m H H') (f : Gr m H' H'') : Gr m H H'' := fun c o h => by
  rcases e c o h with h | ⟨h1, o1, h2, h3⟩
  · exact f c o h
  · rcases f c _ h3 with h | ⟨_, o2, h4, h5⟩
    · exact .inr ⟨h1, o1, h2, h⟩
    · exact .inr ⟨h1, o2, h2.trans h4, h5⟩
theorem Gr.up (h : Gr m H H') (w : ∀ a, m a → n a) : Gr n H H' := fun b o e => (h b o e).imp id fun ⟨h1, h2⟩ => ⟨w b h1, h2⟩
theorem Gr.any (h : Gr m H H') : Gr any H H' := h.up fun _ _ => trivial
theorem Gr.of (h : Ex H H') : Gr m H H' := h.up fun _ z => z.elim
/-- a new object -/
theorem Gr.new (h : H p = none) : Gr m H (upd H p o) := fun b u e => .inl (by
  rw [upd_ne (ne_of_none e h)]
  exact e)
theorem Gr.alloc (e : Gr m H H') (h : H' p = none) : Gr m H (upd H' p o) := e.trans (.new h)
/-- an object that H did not know, or that may change, changes -/
theorem Gr.alt (e : Gr m H H') (h : H' p = some o) (ho : Alt o o') (hp : H p = none ∨ m p) : Gr m H (upd H' p o') := fun b u q => by
  by_cases hb : b = p
  · subst hb
    rcases hp with hp | hp
    · rw [hp] at q
      cases q
    · rcases e b u q with z | ⟨_, o1, z1, z2⟩
      · rw [h] at z
        cases z
        exact .inr ⟨hp, o', ho, upd_same⟩
      · rw [h] at z2
        cases z2
        exact .inr ⟨hp, o', z1.trans ho, upd_same⟩
  · rw [upd_ne hb]
    exact e b u q
theorem Gr.put {xs ys : List V} (e : Gr m H H') (h : H' p = some (.lst xs)) (hp : H p = none ∨ m p) : Gr m H (upd H' p (.lst ys)) := e.alt h (.inl ⟨xs, ys, rfl, rfl⟩) hp
theorem Gr.puti {C dx : Addr} {fs fs' : List (Str × V)} (e : Gr m H H') (h : H' p = some (.ins C dx fs)) (hp : H p = none ∨ m p) : Gr m H (upd H' p (.ins C dx fs')) := e.alt h (.inr ⟨C, dx, fs, fs', rfl, rfl⟩) hp
theorem Gr.at (e : Gr m H H') (h : H a = some o) (q : ¬ m a) : H' a = some o := (e a o h).elim id fun ⟨z, _⟩ => (q z).elim
theorem Gr.get (e : Ex H H') (h : H a = some o) : H' a = some o := e.at h id
/-- what neither a list nor an instance is -/
def still : HO → Bool
  | .lst _ => false | .ins _ _ _ => false | _ => true
theorem Gr.still (e : Gr m H H') (h : H a = some o) (s : still o = true) : H' a = some o := by
  rcases e a o h with z | ⟨_, _, z, _⟩
  · exact z
  · rcases z with ⟨_, _, rfl, _⟩ | ⟨_, _, _, _, rfl, _⟩ <;> cases s
theorem Gr.tup {xs : List V} (e : Gr m H H') (h : H a = some (.tup xs)) : H' a = some (.tup xs) := e.still h rfl
theorem Gr.ins {C dx : Addr} {fs : List (Str × V)} (e : Gr m H H') (h : H a = some (.ins C dx fs)) : ∃ fs', H' a = some (.ins C dx fs') := by
  rcases e a _ h with z | ⟨_, _, z, z2⟩
  · exact ⟨fs, z⟩
  · rcases z with ⟨_, _, q, _⟩ | ⟨_, _, _, fs', q, rfl⟩
    · cases q
    · cases q
      exact ⟨fs', z2⟩
theorem Gr.frz {ob : Obj} {u : HO} (e : Gr m H H') (h : H a = some (.frz ob u)) : H' a = some (.frz ob u) := e.still h rfl
theorem Gr.lst {xs : List V} (e : Gr m H H') (h : H a = some (.lst xs)) : ∃ ys, H' a = some (.lst ys) := by
  rcases e a _ h with z | ⟨_, _, z, z2⟩
  · exact ⟨xs, z⟩
  · rcases z with ⟨_, ys, _, rfl⟩ | ⟨_, _, _, _, q, _⟩
    · exact ⟨ys, z2⟩
    · cases q
theorem Gr.free (e : Gr m H H') (h : H' p = none) : H p = none := by
  cases q : H p with
  | none => rfl
  | some u =>
    rcases e p u q with z | ⟨_, _, _, z⟩
    · rw [h] at z
      cases z
    · rw [h] at z
      cases z
theorem Gr.seqT {xs : List V} (e : Gr m H H') (h : SqT K H a xs) : SqT K H' a xs := by
  rcases h with (h | ⟨o, h⟩) | h
  · exact .inl (.inl (e.tup h))
  · exact .inl (.inr ⟨o, e.frz h⟩)
  · exact .inr h
theorem Gr.seqL {xs : List V} (e : Gr m H H') (h : SqL K H a xs) (q : ¬ m a) : SqL K H' a xs := by
  rcases h with (h | ⟨o, h⟩) | h
  · exact .inl (.inl (e.at h q))
  · exact .inl (.inr ⟨o, e.frz h⟩)
  · exact .inr h
theorem sqT {xs : List V} (h : H a = some (.tup xs)) : SqT K H a xs := .inl (.inl h)
theorem sqL {xs : List V} (h : H a = some (.lst xs)) : SqL K H a xs := .inl (.inl h)
end
/-! ### comprehensions: any walk, each element told by R -/
theorem lc_all {J : It} {n : Nat} {G : Hp → Prop} {Y : Nat → Hp → V → Hp → Prop} (w : Walk J n G Y) (m : Addr → Prop) (I : Hp → Prop) (R : Nat → V → Hp → Prop) (hn : n ≤ 90000) {g : TG} {te : TE} {vs : List Nat} {σ : L2.St} {H : Hp} {Q : VK}
    (hG : ∀ H', Gr m H H' → G H') (hm : ∀ b, m b → H b ≠ none) (hI : I H) (hIu : ∀ H' D o, H D = none → Gr m H H' → I H' → I (upd H' D o)) (hR : ∀ i y H' H'', R i y H' → Gr any H' H'' → R i y H'')
    (hs : ∀ i x H' H'' (Q' : VK), i < n → Gr m H H' → I H' → Y i H' x H'' → (∀ y H3, Gr m H' H3 → I H3 → R i y H3 → Q' y H3) → g x (wipe σ vs) H'' fun σ2 H2 => wipe σ2 vs = wipe σ vs ∧ te σ2 H2 Q')
    (k : ∀ D ys H', H D = none → Gr m H H' → I H' → H' D = some (.lst ys) → ys.length = n → (∀ i y, ys[i]? = some y → R i y H') → Q (.ref D) H') :
    ∀ D, H D = none → ∃ W : Nat → Nat → Hp → Prop, (∃ m, W 0 m (upd H D (.lst []))) ∧ ∀ i m H, W i m H →
      (J.stop i H ∧ Q (.ref D) H) ∨ (J.go i H ∧ ∃ Nx : Hp → Prop, (∀ H', Nx H' → ∃ m', m' < m ∧ W (i + 1) m' H') ∧ ∀ x H', J.yld i H x H' → g x (wipe σ vs) H' fun σ2 H2 => wipe σ2 vs = wipe σ vs ∧ tYes σ2 H2 fun b H3 =>
        if b = true then te σ2 H3 fun y H4 => ∃ acc, H4 D = some (.lst acc) ∧ acc.length < sizeLine ∧ Nx (upd H4 D (.lst (acc ++ [y]))) else Nx H3) := fun D hD => by
  have nD : ¬ m D := fun z => hm D z hD
  refine lc_it w (fun i H' => Gr m H H' ∧ I H' ∧ ∃ ys, H' D = some (.lst ys) ∧ ys.length = i ∧ ∀ j y, ys[j]? = some y → R j y H') ⟨.new hD, hIu H D _ hD .refl hI, [], upd_same, rfl, fun j y h => by simp at h⟩ (fun i H' _ p => hG H' p.1) ?_ ?_
  · rintro i x H' H'' hi ⟨p1, p2, ys, p3, p4, p5⟩ hY
    refine hs i x H' H'' _ hi p1 p2 hY fun y H3 g1 g2 g3 => ?_
    have e3 := g1.at p3 nD
    refine ⟨ys, e3, smallt (by omega), (p1.trans g1).put e3 (.inl hD), hIu _ D _ hD (p1.trans g1) g2, _, upd_same, by rw [List.length_append, p4]; rfl, fun j z hz => ?_⟩
    have gu : Gr any H3 (upd H3 D (.lst (ys ++ [y]))) := Gr.refl.put e3 (.inr trivial)
    by_cases hj : j < ys.length
    · rw [List.getElem?_append_left hj] at hz
      exact hR j z _ _ (p5 j z hz) (g1.any.trans gu)
    · rw [List.getElem?_append_right (by omega)] at hz
      have hj2 : j - ys.length = 0 := by
        cases q : j - ys.length with
        | zero => rfl
        | succ r =>
          rw [q] at hz
          simp at hz
      rw [hj2] at hz
      cases hz
      have ej : j = i := by omega
      subst ej
      exact hR _ _ _ _ g3 gu
  · rintro H' ⟨p1, p2, ys, p3, p4, p5⟩
    exact k D ys H' hD p1 p2 p3 p4 p5
theorem tJs_nil {acc : Str} {σ : L2.St} {H : Hp} {Q : Str → Hp → Prop} : tJs [] acc σ H Q = Q acc H := rfl
theorem tJs_cons {t : TE} {ts : List TE} {acc : Str} {σ : L2.St} {H : Hp} {Q : Str → Hp → Prop} : tJs (t :: ts) acc σ H Q = t σ H fun x H1 => ∃ y : Str, x = .str y ∧ (acc ++ y).length ≤ sizeLine ∧ tJs ts (acc ++ y) σ H1 Q := rfl
theorem scal_ii {a b : Int} : scal (.int a) (.int b) = true := rfl
theorem scal_ss {a b : Str} : scal (.str a) (.str b) = true := rfl
theorem scal_bb {a b : Bool} : scal (.bl a) (.bl b) = true := rfl
/-! ### values by their type -/
inductive Tg | int | bl | str | tup | oth
  deriving DecidableEq
def Tg.int? : Tg → Bool | .int => true | .bl => true | _ => false
structure TyOk (K : PySem.W.Frag) (t : Value) (g : Tg) : Prop where
  i : PySem.W.kitOne K t (.type "int") = some g.int?
  b : PySem.W.kitOne K t (.type "bool") = some (decide (g = .bl))
  s : PySem.W.kitOne K t (.type "str") = some (decide (g = .str))
  t : PySem.W.kitOne K t (.type "tuple") = some (decide (g = .tup))
/-- v is of a type that g tells -/
def Tyd (K : PySem.W.Frag) (H : Hp) (v : V) (g : Tg) : Prop := ∃ t, TyX K H v t ∧ TyOk K t g
section
variable {K : PySem.W.Frag} {H : Hp} {a : Addr}
theorem tyok_int : TyOk K (.type "int") .int := ⟨kit_ty (by decide +kernel), kit_ty (by decide +kernel), kit_ty (by decide +kernel), kit_ty (by decide +kernel)⟩
theorem tyok_bl : TyOk K (.type "bool") .bl := ⟨kit_ty (by decide +kernel), kit_ty (by decide +kernel), kit_ty (by decide +kernel), kit_ty (by decide +kernel)⟩
theorem tyok_str : TyOk K (.type "str") .str := ⟨kit_ty (by decide +kernel), kit_ty (by decide +kernel), kit_ty (by decide +kernel), kit_ty (by decide +kernel)⟩
theorem tyok_tup : TyOk K (.type "tuple") .tup := ⟨kit_ty (by decide +kernel), kit_ty (by decide +kernel), kit_ty (by decide +kernel), kit_ty (by decide +kernel)⟩
theorem tyok_lst : TyOk K (.type "list") .oth := ⟨kit_ty (by decide +kernel), kit_ty (by decide +kernel), kit_ty (by decide +kernel), kit_ty (by decide +kernel)⟩
theorem tyok_dct : TyOk K (.type "dict") .oth := ⟨kit_ty (by decide +kernel), kit_ty (by decide +kernel), kit_ty (by decide +kernel), kit_ty (by decide +kernel)⟩
theorem tyok_non : TyOk K (.type "NoneType") .oth := ⟨kit_ty (by decide +kernel), kit_ty (by decide +kernel), kit_ty (by decide +kernel), kit_ty (by decide +kernel)⟩
theorem tyd_int (i : Int) : Tyd K H (.int i) .int := ⟨_, .base (.int i), tyok_int⟩
theorem tyd_bl (b : Bool) : Tyd K H (.bl b) .bl := ⟨_, .base (.bl b), tyok_bl⟩
theorem tyd_str (s : Str) : Tyd K H (.str s) .str := ⟨_, .base (.str s), tyok_str⟩
theorem tyd_non : Tyd K H .non .oth := ⟨_, .base .non, tyok_non⟩
theorem tyd_tup {xs : List V} (h : H a = some (.tup xs)) : Tyd K H (.ref a) .tup := ⟨_, .base (.tup h), tyok_tup⟩
theorem tyd_lst {xs : List V} (h : H a = some (.lst xs)) : Tyd K H (.ref a) .oth := ⟨_, .base (.lst h), tyok_lst⟩
/-- isinstance(v, T), read -/
theorem isi_int {v : V} {g : Tg} {Q : VK} (h : Tyd K H v g) (q : Q (.bl g.int?) H) : rIsi K [v, .ty "int"] H Q := by
  obtain ⟨t, h1, h2⟩ := h
  exact ⟨v, .ty "int", t, .type "int", _, rfl, .ty _, h1, h2.i, q⟩
theorem isi_bl {v : V} {g : Tg} {Q : VK} (h : Tyd K H v g) (q : Q (.bl (decide (g = .bl))) H) : rIsi K [v, .ty "bool"] H Q := by
  obtain ⟨t, h1, h2⟩ := h
  exact ⟨v, .ty "bool", t, .type "bool", _, rfl, .ty _, h1, h2.b, q⟩
theorem isi_str {v : V} {g : Tg} {Q : VK} (h : Tyd K H v g) (q : Q (.bl (decide (g = .str))) H) : rIsi K [v, .ty "str"] H Q := by
  obtain ⟨t, h1, h2⟩ := h
  exact ⟨v, .ty "str", t, .type "str", _, rfl, .ty _, h1, h2.s, q⟩
theorem isi_tup {v : V} {g : Tg} {Q : VK} (h : Tyd K H v g) (q : Q (.bl (decide (g = .tup))) H) : rIsi K [v, .ty "tuple"] H Q := by
  obtain ⟨t, h1, h2⟩ := h
  exact ⟨v, .ty "tuple", t, .type "tuple", _, rfl, .ty _, h1, h2.t, q⟩
end
end Z
namespace Z
open PySem PySem.Spec PyProof.Rows L2
/-! ### data: atoms and tuples, and other things by their type alone -/
inductive D | non | bl (b : Bool) | int (i : Int) | str (s : Str) | tup (l : List D) | oth
def D.tg : D → Tg
  | .non => .oth | .bl _ => .bl | .int _ => .int | .str _ => .str | .tup _ => .tup | .oth => .oth
mutual
inductive DT (K : PySem.W.Frag) (H : Hp) : V → D → Prop
  | non : DT K H .non .non
  | bl (b : Bool) : DT K H (.bl b) (.bl b)
  | int (i : Int) : DT K H (.int i) (.int i)
  | str (s : Str) : DT K H (.str s) (.str s)
  | tup {a : Addr} {xs : List V} {ds : List D} : SqT K H a xs → DTs K H xs ds → DT K H (.ref a) (.tup ds)
  | oth {v : V} : Tyd K H v .oth → DT K H v .oth
inductive DTs (K : PySem.W.Frag) (H : Hp) : List V → List D → Prop
  | nil : DTs K H [] []
  | cons {v : V} {vs : List V} {d : D} {ds : List D} : DT K H v d → DTs K H vs ds → DTs K H (v :: vs) (d :: ds)
end
section
variable {K : PySem.W.Frag} {H : Hp} {v : V} {d : D} {a : Addr}
theorem tyd_sqT {xs : List V} (h : SqT K H a xs) : Tyd K H (.ref a) .tup := by
  rcases h with (h | ⟨o, h⟩) | h
  · exact tyd_tup h
  · exact ⟨_, .fTuple h, tyok_tup⟩
  · obtain ⟨o, its, n, h1, h2, _⟩ := h
    exact ⟨_, .kTuple h1 h2, tyok_tup⟩
theorem Tyd.oth_mono {H' : Hp} {g : Tg} (h : Tyd K H v g) (e : Gr any H H') : Tyd K H' v g := by
  obtain ⟨t, h1, h2⟩ := h
  refine ⟨t, ?_, h2⟩
  cases h1 with
  | base b =>
    cases b with
    | non => exact .base .non
    | bl b => exact .base (.bl b)
    | int i => exact .base (.int i)
    | str s => exact .base (.str s)
    | flt y => exact .base (.flt y)
    | lst q =>
      obtain ⟨ys, z⟩ := e.lst q
      exact .base (.lst z)
    | frz q => exact .base (.frz (e.frz q))
    | tup q => exact .base (.tup (e.tup q))
    | dK q => exact .base (.dK (e.still q rfl))
    | dT q => exact .base (.dT (e.still q rfl))
    | ins q c k1 k2 k3 k4 =>
      obtain ⟨fs', z⟩ := e.ins q
      exact .base (.ins z c k1 k2 k3 k4)
  | byt b => exact .byt b
  | set q => exact .set (e.still q rfl)
  | kList q c => exact .kList q c
  | kTuple q c => exact .kTuple q c
  | kDict q c => exact .kDict q c
  | fTuple q => exact .fTuple (e.frz q)
  | fDict q => exact .fDict (e.frz q)
mutual
theorem DT.mono {H' : Hp} {v : V} {d : D} (h : DT K H v d) (e : Gr any H H') : DT K H' v d := by
  cases h with
  | non => exact .non
  | bl b => exact .bl b
  | int i => exact .int i
  | str s => exact .str s
  | tup h hs => exact .tup (e.seqT h) (DTs.mono hs e)
  | oth h => exact .oth (h.oth_mono e)
theorem DTs.mono {H' : Hp} {vs : List V} {ds : List D} (h : DTs K H vs ds) (e : Gr any H H') : DTs K H' vs ds := by
  cases h with
  | nil => exact .nil
  | cons h hs => exact .cons (DT.mono h e) (DTs.mono hs e)
end
theorem DT.tyd (h : DT K H v d) : Tyd K H v d.tg := by
  cases h with
  | non => exact tyd_non
  | bl b => exact tyd_bl b
  | int i => exact tyd_int i
  | str s => exact tyd_str s
  | tup h _ => exact tyd_sqT h
  | oth h => exact h
end
def D.isInt : D → Bool
  | .int _ => true | _ => false
def D.isNum : D → Bool
  | .int i => decide (0 ≤ i) | _ => false
def D.isIn (d : D) (lo hi : Int) : Bool := match d with
  | .int i => decide (lo ≤ i) && decide (i ≤ hi) | _ => false
theorem D.isInt_of (d : D) : d.isInt = (d.tg.int? && !(decide (d.tg = .bl))) := by cases d <;> rfl
theorem D.isInt_some {d : D} (h : d.isInt = true) : ∃ i, d = .int i := by
  cases d <;> first | exact ⟨_, rfl⟩ | cases h
theorem D.isNum_no {d : D} (h : d.isInt = false) : d.isNum = false := by
  cases d <;> first | rfl | cases h
theorem D.isIn_no {d : D} {lo hi : Int} (h : d.isInt = false) : d.isIn lo hi = false := by
  cases d <;> first | rfl | cases h
/-! ### names -/
def lower (c : Nat) : Bool := decide (97 ≤ c) && decide (c ≤ 122)
def lowdig (c : Nat) : Bool := lower c || (decide (48 ≤ c) && decide (c ≤ 57))
def nameOk (s : Str) : Bool := decide (1 ≤ s.length) && decide (s.length ≤ 8) && (match s.cps.toList with
  | [] => false
  | c :: _ => lower c) && s.cps.toList.all lowdig
def D.isName : D → Bool
  | .str s => nameOk s | _ => false
/-- a text that the machine can measure -/
def D.fits : D → Prop
  | .str s => s.length ≤ 100000 | _ => True
end Z
namespace Z
open PySem PySem.Spec PyProof.Rows L2
section
variable {K : PySem.W.Frag} {g : TG} {te : TE} {vs : List Nat} {σ : L2.St} {H : Hp} {Q : VK}
/-- [e for c in z], z a text: e of each sign is f c -/
theorem lc_str {i : Nat} {z : Str} (hi : σ[i]? = some (some (.str z))) (hz : z.length ≤ 90000) (f : Nat → V)
    (hs : ∀ c H' (Q' : VK), c ∈ z.cps.toList → Ex H H' → (∀ H3, Ex H' H3 → Q' (f c) H3) → g (.str ⟨#[c]⟩) (wipe σ vs) H' fun σ2 H2 => wipe σ2 vs = wipe σ vs ∧ te σ2 H2 Q')
    (k : ∀ D H', H D = none → Ex H H' → H' D = some (.lst (z.cps.toList.map f)) → Q (.ref D) H') : tLc (iStr (tVar i)) g tYes te vs σ H Q := by
  refine ⟨.str z, hi, z, rfl, lc_all (H := H) walk_str nob (fun _ => True) (fun i y _ => ∃ c, z.cps[i]? = some c ∧ y = f c) hz (fun _ _ => trivial) (fun _ q => q.elim) trivial (fun _ _ _ _ _ _ => trivial) (fun _ _ _ _ q _ => q) ?_ ?_⟩
  · rintro i x H' H'' Q' hi g1 _ ⟨rfl, c, h1, rfl⟩ q
    exact hs c _ Q' (by rw [← Array.getElem?_toList] at h1; exact List.mem_of_getElem? h1) g1 fun H3 e => q _ H3 e trivial ⟨c, h1, rfl⟩
  · intro D ys H' hD e _ h1 h2 h3
    refine k D H' hD e ?_
    have ey : ys = z.cps.toList.map f := by
      refine List.ext_getElem? fun i => ?_
      by_cases h : i < ys.length
      · obtain ⟨c, h4, h5⟩ := h3 i ys[i] (List.getElem?_eq_getElem h)
        rw [← Array.getElem?_toList] at h4
        rw [List.getElem?_map, h4, List.getElem?_eq_getElem h, h5]
        rfl
      · rw [List.getElem?_eq_none (by omega), List.getElem?_eq_none (by rw [List.length_map, Array.length_toList]; omega)]
    rw [← ey]
    exact h1
end
theorem letters_eq : (Str.ofString "abcdefghijklmnopqrstuvwxyz").cps.toList = [97, 98, 99, 100, 101, 102, 103, 104, 105, 106, 107, 108, 109, 110, 111, 112, 113, 114, 115, 116, 117, 118, 119, 120, 121, 122] := by decide +kernel
theorem lettersdigits_eq : (Str.ofString "abcdefghijklmnopqrstuvwxyz0123456789").cps.toList = [97, 98, 99, 100, 101, 102, 103, 104, 105, 106, 107, 108, 109, 110, 111, 112, 113, 114, 115, 116, 117, 118, 119, 120, 121, 122, 48, 49, 50, 51, 52, 53, 54, 55, 56, 57] := by decide +kernel
theorem in_letters (c : Nat) : decide (c ∈ (Str.ofString "abcdefghijklmnopqrstuvwxyz").cps.toList) = lower c := by
  rw [letters_eq]
  unfold lower
  rw [Bool.eq_iff_iff]
  simp only [decide_eq_true_eq, Bool.and_eq_true, List.mem_cons, List.not_mem_nil, or_false]
  omega
theorem in_lettersdigits (c : Nat) : decide (c ∈ (Str.ofString "abcdefghijklmnopqrstuvwxyz0123456789").cps.toList) = lowdig c := by
  rw [lettersdigits_eq]
  unfold lowdig lower
  rw [Bool.eq_iff_iff]
  simp only [decide_eq_true_eq, Bool.and_eq_true, Bool.or_eq_true, List.mem_cons, List.not_mem_nil, or_false]
  omega
theorem nameOk_iff {s : Str} {c : Nat} {r : List Nat} (h : s.cps.toList = c :: r) : nameOk s = (decide (s.length ≤ 8) && lower c && s.cps.toList.all lowdig) := by
  unfold nameOk
  rw [h]
  have e : s.length = r.length + 1 := by
    have e := congrArg List.length h
    rw [Array.length_toList, List.length_cons] at e
    exact e
  have e1 : decide (1 ≤ s.length) = true := decide_eq_true (by omega)
  rw [e1, Bool.true_and]
theorem nameOk_len {s : Str} (h : nameOk s = true) : 1 ≤ s.length ∧ s.length ≤ 8 := by
  unfold nameOk at h
  simp only [Bool.and_eq_true, decide_eq_true_eq] at h
  exact h.1.1
end Z

namespace PySem
namespace ErrG
open PySem.W PySem.Calls PyProof.Rows PySem.HandSPX
/-! ### the text of __init__ -/
def iA (p1 p2 : Pos) : Arguments := { posonlyargs := [], args := [{ arg := "self", annotation := none, pos := p1 }, { arg := "given", annotation := none, pos := p2 }], vararg := none, kwonlyargs := [], kw_defaults := [], kwarg := none, defaults := [] }
def iB (q1 q2 q3 q4 : Pos) : List Stmt := [.Assign [.Attribute (.Name "self" q1) "given" q2] (.Name "given" q3) q4]
def iS : Scope := { kind := .function, names := [(PySem.Str.ofString "self", .local), (PySem.Str.ofString "given", .local)], isGenerator := false, isCoroutine := false, more := [] }
/-- what the written part says of Low, at C, and of its __init__, at fI -/
structure ErTxt (K : Frag) (mg : Str → Option Value) (n q : Str) (C fI : Addr) : Prop where
  gC : mg n = some (.ref C)
  cls : ∃ nm qq N bs bm sn sub ab col dd k0 k1 k2 k3 k5, K.lookup C = some (excClassObj nm qq C N bs bm true sn sub ab col dd k0 k1 k2 k3 k5 "ValueError.__new__") ∧ refsVE bm = true
  sa : findIn K (.ref C) "__setattr__" = some (some (.builtin "object.__setattr__"))
  ga : findIn K (.ref C) "__getattribute__" = some (some (.builtin "BaseException.__getattribute__"))
  gg : findIn K (.ref C) "__getattr__" = some none
  noN : findIn K (.ref C) "given" = some none
  iC : findIn K (.ref C) "__init__" = some (some (.ref fI))
  tC : typeIn K (.ref fI) = some (.type "function")
  kC : keepIn K (.ref C) = true
  exC : subIn K (.ref C) (.type "BaseException") = some true
  tyC : typeIn K (.ref C) = some (.type "type")
  hdC : hasDictIn K C = true
  te : exmOne K (.ref C) (.ref C) = some true
  fn : ∃ (oc : Value) (od : Option Addr) (kV doc pm : Value) (an : Option Addr) (cdv ct : Value) (osl : Array (Option Value)) (p1 p2 q1 q2 q3 q4 : Pos),
    K.lookup fI = some ⟨oc, od, .func (fnOf "__init__" q (iA p1 p2) (iB q1 q2 q3 q4) iS .none kV doc pm an cdv ct), osl⟩ ∧ codeIn K cdv q = true
theorem one_size (v : Value) : [v].length ≤ sizeLine := by
  rw [sizeLine_eq]
  exact (by decide : 1 ≤ 16777216)
theorem kept_but {K : Frag} {h h' : Heap} {x : Addr} (X : K.In h) (hx : K.lookup x = none) (k : ∀ b o, b ≠ x → h.get? b = some o → h'.get? b = some o) : K.In h' := fun a o e =>
  k a o (fun z => by rw [z, hx] at e; cases e) (X a o e)
theorem ldC {M : Model} {s : Shared} {name : Str} {scope : Scope} {L a : Addr} {cd : Value} {m : Str → Option Value} {x : Str} {pos : Pos} {v : Value} {Q : Value → Shared → Prop} {A : Around} {E : Value → Shared → Prop} (hn : s.heap.Ns L m) (hv : m x = some v) (h : Q v s)
    (hk : scope.kind = .function := by rfl) (hl : (envOfC name scope L a cd).kindOf x = some .local := by rfl) (hd : (x == ("__debug__" : Str)) = false := by decide) :
    wpAny M A (eval (.Name x pos) (envOfC name scope L a cd)) Q E s := wpAny_Name (wpAny_loadName_local hk hl hn hv h) hd
/-- what __init__ leaves of a fresh exception at x -/
structure InitEnd (h h' : Heap) (x C dx t1 : Addr) (v : Value) : Prop where
  keep : ∀ b o, b ≠ x → h.get? b = some o → h'.get? b = some o
  obj : h'.get? x = some { cls := .ref C, dict := some dx, data := .fields #[.ref t1, .none, .none, .none, .bool false, .none] }
  dbig : h.objs.size ≤ dx
  dne : dx ≠ x
  ns : h'.Ns1 dx (fun y => if y = "given" then some v else none)
/-- a made Low -/
structure OwnMade (h h' : Heap) (e C d : Addr) (v : Value) : Prop where
  keep : ∀ b o, h.get? b = some o → h'.get? b = some o
  new : h.objs.size ≤ e
  obj : ∃ oe vs, h'.get? e = some oe ∧ oe.cls = .ref C ∧ oe.dict = some d ∧ oe.data = .fields vs ∧ vs[1]? = some .none
  dbig : h.objs.size ≤ d
  dne : d ≠ e
  ns : h'.Ns1 d (fun y => if y = "given" then some v else none)
section
variable {prog : Program} {w : World} {A : Around} {E : Value → Shared → Prop} {R : Result → Shared → Prop} {s : Shared} {K : Frag} {mg : Str → Option Value} {n q : Str} {C fI : Addr}
theorem er_init (T : ErTxt K mg n q C fI) {x t0 : Addr} {v : Value} (X : K.In s.heap) (hlim : s.heap.NoLimit) (hx : s.heap.get? x = some (excO C t0)) (hnx : K.lookup x = none) (hroom : A.depth < recursionLimit)
    (hq : ∀ h' tk dx, InitEnd s.heap h' x C dx t0 v → R (.ok (.ret .none)) { s with heap := h', toks := tk }) :
    codeAny (model prog w) A (.call (.ref fI) ⟨[.ref x, v], []⟩) R s := by
  obtain ⟨oc, od, kV, doc, pm, an, cdv, ct, osl, p1, p2, q1, q2, q3, q4, ho, hcd⟩ := T.fn
  obtain ⟨nm, qq, N, bs, bm, sn, sub, ab, col, dd, k0, k1, k2, k3, k5, hC, hbm⟩ := T.cls
  have hcl : clsIn K C = some { name := nm, bases := bs, mro := .ref C :: bm, ns := N, qualname := qq, hasDict := true, slotNames := sn, subclasses := sub, abstract := ab, collection := col, hasDel := false } := by unfold clsIn; rw [hC] <;> rfl
  refine Att.call_fn (binds := [("self", .ref x), ("given", v)]) X hlim ho hcd hroom (BindsTo.of_eq (by first | rfl | with_unfolding_all rfl)) (by first | rfl | decide | with_unfolding_all rfl) (fun s₁ IC => ?_) rfl rfl rfl
  obtain ⟨h₁, tk₁, rfl⟩ := IC.toInCall.same
  have k : ∀ b o, s.heap.get? b = some o → h₁.get? b = some o := IC.toInCall.keep
  have hn := IC.toInCall.ns
  have hxL : s.heap.objs.size ≠ x := Nat.ne_of_gt (Heap.lt_size hx)
  have X₁ : K.In h₁ := X.keeps k
  have hx₁ := k _ _ hx
  -- self.by = by
  show wpAny _ _ (execs _ _) _ _ _
  refine wpAny_execs_cons (plainObj_wpAny_Assign_Attribute ?_)
  refine ldC (v := v) hn (by first | rfl | with_unfolding_all rfl | kernel_rfl) (ldC (v := .ref x) hn (by first | rfl | with_unfolding_all rfl | kernel_rfl) ?_)
  refine set_plain X₁ (ox := excO C t0) (od := none) ⟨hx₁, rfl, rfl, trivial⟩ T.sa ?_
  refine exc_osa X₁ hx₁ hcl (show refsVE (.ref C :: bm) = true from hbm) rfl T.noN (fun h₃ tk₃ dx k₃ dn dne hx₃ hn₃ => ?_)
  show wpAny _ _ (execs _ _) _ _ _
  have z : s.heap.objs.size < h₁.objs.size := hn.lt
  exact wpAny_execs_nil (hq h₃ tk₃ dx ⟨fun b o hb e => k₃ b o hb (k b o e), hx₃, Nat.le_of_lt (Nat.lt_of_lt_of_le z dn), dne, hn₃⟩)
theorem er_made (T : ErTxt K mg n q C fI) {v : Value} (X : K.In s.heap) (hlim : s.heap.NoLimit) (hroom : A.depth + 1 < recursionLimit)
    (hq : ∀ h' tk e d, OwnMade s.heap h' e C d v → R (.ok (.ret (.ref e))) { s with heap := h', toks := tk }) :
    codeAny (model prog w) A (.call (.ref C) ⟨[v], []⟩) R s := by
  obtain ⟨nm, qq, N, bs, bm, sn, sub, ab, col, dd, k0, k1, k2, k3, k5, hC, hbm⟩ := T.cls
  obtain ⟨hp, g, dr, tk, os⟩ := s
  have k : ∀ b o, hp.get? b = some o → ((hp.push (kdv_tup [v])).push (excO C hp.objs.size)).get? b = some o := fun b o e => Heap.get?_push_of_some _ (Heap.get?_push_of_some _ e)
  have hget : ((hp.push (kdv_tup [v])).push (excO C hp.objs.size)).get? (hp.objs.size + 1) = some (excO C hp.objs.size) := by heap_get
  have hnx : K.lookup (hp.objs.size + 1) = none := by
    cases e : K.lookup (hp.objs.size + 1) with
    | none => rfl
    | some o =>
      have z : hp.get? (hp.objs.size + 1) = some o := X _ _ e
      exact absurd (Nat.lt_of_succ_lt (Heap.lt_size z)) (Nat.lt_irrefl _)
  refine call_own F.excBase_ValueError (fun X => refsVE_contains X bm hbm) (X _ _ hC) (looks_findIn X T.iC) (fun self => bind_fn X self T.tC) (one_size v) ?_
  refine er_init (s := ⟨(hp.push (kdv_tup [v])).push (excO C hp.objs.size), g, dr, tk, os⟩) T (X.keeps k) (hlim.keeps k) hget hnx ?_ fun h' tk' dx ⟨k', hx, dn, dne, hns⟩ => ?_
  · show A.depth + 1 < recursionLimit
    exact hroom
  · have old : ∀ b o, hp.get? b = some o → h'.get? b = some o := fun b o e => k' b o (Nat.ne_of_lt (Nat.lt_succ_of_lt (Heap.lt_size e))) (k b o e)
    have z : hp.objs.size + 1 + 1 ≤ dx := by
      first
        | (simpa only [Heap.size_push] using dn)
        | exact dn
        | (have q := dn; rw [Heap.size_push, Heap.size_push] at q; exact q)
    exact ⟨rfl, hq h' tk' (hp.objs.size + 1) dx ⟨old, Nat.le_succ _, ⟨_, _, hx, rfl, rfl, rfl, rfl⟩, Nat.le_trans (Nat.le_trans (Nat.le_succ _) (Nat.le_succ _)) z, dne, hns⟩⟩
end
end ErrG
end PySem
namespace L2
open PySem PySem.Spec PyProof.Rows
theorem relO_erG {v : V} {v' : Value} (r : RelV v v') (f : Str) : RelO (List.lookup f [(("given" : Str), v)]) (if f = "given" then some v' else none) := by
  by_cases hw : f = "given"
  · subst hw
    rw [if_pos rfl]
    have q : List.lookup ("given" : Str) [(("given" : Str), v)] = some v := by simp [List.lookup]
    rw [q]
    exact r
  · rw [if_neg hw]
    have qw : (f == ("given" : Str)) = false := by simpa using hw
    have q2 : List.lookup f [(("given" : Str), v)] = none := by simp [List.lookup, qw]
    rw [q2]
    trivial
section
variable {X : Cx} {n q : Str} {C fI : Addr}
/-- Low(e) -/
def tMkErG (C : Addr) (ta : TA) : St → Hp → XK → Prop := fun σ H Q => ta σ H fun vs H1 => ∃ v, vs = [v] ∧ ∀ d, H1 d = none → Q (.ref C) (some d) (upd H1 d (.xd [(("given" : Str), v)]))
theorem pmk_erG {a : Expr} {ta : TA} {p pos : Pos} {k : Nat} (T : PySem.ErrG.ErTxt X.K X.mg n q C fI) (hr : Room k X.A) (ha : PA X [a] ta) (hg : Gl X n) (hdb : (n == ("__debug__" : Str)) = false := by decide)
    (he : starEach (a :: []) X.env = (false, eval a X.env) :: starEach [] X.env := by rfl) (hpl : (backTo pos (starEach [] X.env)).any (·.1) = false := by rfl) :
    PMk X (.Call (.Name n p) [a] [] pos) (tMkErG C ta) := by
  intro pins s σ H Q I h
  refine wpAny_Call_Name_kw (ld_glob I hg T.gC ?_ hdb)
  refine PySem.W.callWith_K (h₀ := X.base) I.ok.mod.kin T.kC (thn (ha.run pos pins s σ H _ I h) fun us s1 hh => ?_) he hpl
  obtain ⟨vs, H1, I1, r1, v, ev, q1⟩ := hh
  subst ev
  refine ⟨I1.kIn, ?_⟩
  cases r1 with
  | cons rv rn =>
    rename_i v' us'
    cases rn
    show wpAny _ _ (call (.ref C) [v']) _ _ _
    have hlim := I1.nolimit
    obtain ⟨hp, g, dr, tk, os⟩ := s1
    refine wpAny_call (PySem.ErrG.er_made T I1.kIn hlim (by have := hr.dp; omega) fun h' tk' e d M => ?_)
    show MkP X pins σ Q (.ref e) ⟨h', g, dr, tk', os⟩
    obtain ⟨oe, fv, hoe, hc, hd, hdat, h1⟩ := M.obj
    have hns := M.ns
    obtain ⟨G', g1, g2⟩ := restrict h' fun b => decide (b ≠ e)
    have gk : ∀ b, b ≠ e → G'.get? b = h'.get? b := fun b hb => g1 b (decide_eq_true hb)
    have ge : G'.get? e = none := g2 e (by simp)
    have old : ∀ b o, hp.get? b = some o → G'.get? b = some o := fun b o q => (gk b (Nat.ne_of_lt (Nat.lt_of_lt_of_le (Heap.lt_size q) M.new))).trans (M.keep b o q)
    have ob : ObjOk X.prog X.w (upd H1 d (.xd [(("given" : Str), v)])) G' d (.xd [(("given" : Str), v)]) :=
      ⟨_, hns.at (fun o q => (gk d M.dne).trans q), fun f => relO_erG rv f⟩
    have J : Inv X pins σ (upd H1 d (.xd [(("given" : Str), v)])) ⟨G', g, dr, tk', os⟩ := I1.laid (t' := tk') old M.dbig ob
    refine ⟨e, oe, fv, ⟨G', g, dr, tk', os⟩, _, .ref C, some d, rfl, J, fun b o q => ?_, ge, hoe, ⟨hc, hd⟩, hdat, h1, ?_, rfl, I1.bare, raises_own T.exC T.tyC, q1 d (I1.hok.fresh M.dbig)⟩
    · by_cases hb : b = e
      · have q' : G'.get? b = some o := q
        rw [hb, ge] at q'; cases q'
      · exact (gk b hb).symm.trans q
    · rw [upd_ne (Ne.symm M.dne)]
      exact I1.hok.fresh M.new
/-- raise Low(e) -/
def tRaiseErG (C : Addr) (W : WX) (ta : TA) : TS := fun _ σ H => tMkErG C ta σ H fun cls d H' => W cls d σ H'
theorem ps_raiseErG {a : Expr} {ta : TA} {W : WX} {p pos pos2 : Pos} {k : Nat} (hc : X.calm = true) (T : PySem.ErrG.ErTxt X.K X.mg n q C fI) (hr : Room k X.A) (tk : Takes X W) (ha : PA X [a] ta) (hg : Gl X n) (hdb : (n == ("__debug__" : Str)) = false := by decide)
    (he : starEach (a :: []) X.env = (false, eval a X.env) :: starEach [] X.env := by rfl) (hpl : (backTo pos (starEach [] X.env)).any (·.1) = false := by rfl) :
    PS X (.Raise (some (.Call (.Name n p) [a] [] pos)) none pos2) (tRaiseErG C W ta) := ps_raise hc tk (pmk_erG T hr ha hg hdb he hpl)
/-- low.by, low the exception that the suite holds (at a; its class cls, its dict d) -/
def tFldErG (C : Addr) (a : Addr) (cls : Value) (d : Option Addr) (te : TE) : TE := fun σ H Q => te σ H fun x H1 => x = .ref a ∧ cls = .ref C ∧ ∃ (dd : Addr) (v : V), d = some dd ∧ H1 dd = some (.xd [(("given" : Str), v)]) ∧ Q v H1
theorem pe_fldErG {a : Addr} {oe : Obj} {cls : Value} {d : Option Addr} {pn : List (Addr × Obj)} {e : Expr} {te : TE} {pos : Pos} (T : PySem.ErrG.ErTxt X.K X.mg n q C fI) (hz : Zc cls d oe) (hf : ∃ vs, oe.data = .fields vs) (he : PE (X.suite a ((a, oe) :: pn)) e te)
    (hb : attributeBase e "given" X.env (eval e X.env) = eval e X.env := by rfl) :
    PE (X.suite a ((a, oe) :: pn)) (.Attribute e "given" pos) (tFldErG C a cls d te) := by
  refine ⟨fun pins s σ H Q I h => ?_⟩
  refine attr_of hb (thn (he.run pins s σ H _ I h) fun u s1 hh => ?_)
  obtain ⟨x, H1, I1, rx, ex, ec, dd, v, ed, ea, q⟩ := hh
  subst ex
  obtain rfl : u = Value.ref a := rx
  subst ec
  subst ed
  obtain ⟨ha, _⟩ := I1.pin (a, oe) (List.mem_append_left _ List.mem_cons_self)
  obtain ⟨vs, hd⟩ := hf
  have hx : ObjOk X.prog X.w H1 s1.heap dd (.xd [(("given" : Str), v)]) := I1.hok dd _ ea
  obtain ⟨mA, hns, hr⟩ := hx
  obtain ⟨od, ho, hl⟩ := lookIn_ns hns
  have l : List.lookup ("given" : Str) [(("given" : Str), v)] = some v := by simp [List.lookup]
  obtain ⟨u, hu, ru⟩ := RelO.some_of (v := v) (o := mA "given") (by rw [← l]; exact hr "given")
  have J : PySem.W.InstAt s1.heap a oe C (some od) := ⟨ha, hz.1, by unfold PySem.W.notCls; rw [hd] <;> rfl, by rw [hz.2]; exact ho⟩
  exact HandSPX.exc_get I1.kIn J T.ga T.gg T.exC (PySem.W.findObj_own T.hdC T.noN rfl (by rw [hl, hu])) (handed_of ru) ⟨v, H1, I1.tok _, ru, q⟩
end
end L2

namespace PySem
namespace ErrG
-- facts
open PySem.W L2 He PySem.HandSPX PySem.Calls PyProof.Rows
/-- what the head must tell of such a class -/
def erB (K : Frag) (C fI : Addr) : Bool :=
  (match K.lookup C with
  | some ⟨.type "type", _, .cls cd, sl⟩ => (match cd.mro, sl.toList with
    | .ref C' :: bm, [_, _, _, _, some (.builtin n), _] => decide (C' = C) && (decide (n = "ValueError.__new__") && (!cd.hasDel && (cd.hasDict && refsVE bm)))
    | _, _ => false)
  | _ => false) &&
  (eqO (findIn K (.ref C) "__setattr__") (some (some (.builtin "object.__setattr__"))) && (eqO (findIn K (.ref C) "__getattribute__") (some (some (.builtin "BaseException.__getattribute__"))) && (eqO (findIn K (.ref C) "__getattr__") (some none) &&
  (eqO (findIn K (.ref C) "given") (some none) && (eqO (findIn K (.ref C) "__init__") (some (some (.ref fI))) && (decide (typeIn K (.ref fI) = some (.type "function")) && (keepIn K (.ref C) && (decide (subIn K (.ref C) (.type "BaseException") = some true) &&
  (decide (typeIn K (.ref C) = some (.type "type")) && (hasDictIn K C && decide (exmOne K (.ref C) (.ref C) = some true)))))))))))
theorem er_of {K : Frag} {mg : Str → Option Value} {n q : Str} {C fI : Addr} {fd : FuncData} {p1 p2 q1 q2 q3 q4 : Pos} (g : mg n = some (.ref C)) (F : FunD K "__init__" q (iA p1 p2) (iB q1 q2 q3 q4) iS [] [] fI fd) (e : erB K C fI = true) : ErTxt K mg n q C fI := by
  obtain ⟨e0, e⟩ := ba e
  obtain ⟨e1, e⟩ := ba e
  obtain ⟨e2, e⟩ := ba e
  obtain ⟨e3, e⟩ := ba e
  obtain ⟨e4, e⟩ := ba e
  obtain ⟨e5, e⟩ := ba e
  obtain ⟨e6, e⟩ := ba e
  obtain ⟨e7, e⟩ := ba e
  obtain ⟨e8, e⟩ := ba e
  obtain ⟨e9, e⟩ := ba e
  obtain ⟨e10, e11⟩ := ba e
  refine ⟨g, ?_, eqO_ok e1, eqO_ok e2, eqO_ok e3, eqO_ok e4, eqO_ok e5, of_decide_eq_true e6, e7, of_decide_eq_true e8, of_decide_eq_true e9, e10, of_decide_eq_true e11, ?_⟩
  · split at e0
    · rename_i dd cd sl ho
      split at e0
      · rename_i C' bm k0 k1 k2 k3 n' k5 hm hs
        simp only [Bool.and_eq_true, decide_eq_true_eq, Bool.not_eq_true'] at e0
        obtain ⟨rfl, rfl, hdel, hdct, hr⟩ := e0
        obtain ⟨nm, bs, mro, ns, qn, hd, sn, sub, ab, col, del⟩ := cd
        dsimp only at hm hdel hdct
        subst hm hdel hdct
        have hsl : sl = #[k0, k1, k2, k3, some (.builtin "ValueError.__new__"), k5] := by
          obtain ⟨l⟩ := sl
          simp only at hs
          rw [hs]
        subst hsl
        exact ⟨nm, qn, ns, bs, bm, sn, sub, ab, col, dd, k0, k1, k2, k3, k5, ho, hr⟩
      · cases e0
    · cases e0
  · obtain ⟨oc, od, dV, kV, doc, pm, an, cdv, ct, osl, rfl, lk, hcd, hdv, _⟩ := F.ex
    obtain rfl : dV = .none := by
      rcases hdv with h | h
      · exact h.2
      · exact absurd rfl h.1
    exact ⟨oc, od, kV, doc, pm, an, cdv, ct, osl, p1, p2, q1, q2, q3, q4, lk, hcd⟩
end ErrG
end PySem

namespace Z
open PySem PySem.Spec PyProof.Rows L2
def er3N : List Str := ["NotAnOrder", "InvalidNumber", "TooMany"]
def er3F (i : Nat) : Str := if i = 2 then "limit" else "given"
def er3K (K : PySem.W.Frag) (D : Addr) : Bool := [(PySem.W.clsIn K D).isSome, He.eqO (PySem.W.findIn K (.ref D) "__getattribute__") (some (some (.builtin "BaseException.__getattribute__"))), He.eqO (PySem.W.findIn K (.ref D) "__getattr__") (some none),
  decide (PySem.W.subIn K (.ref D) (.type "BaseException") = some true), PySem.W.hasDictIn K D, He.eqO (PySem.W.findIn K (.ref D) "__class__") (some (some (.builtin "object.__class__"))),
  decide (PySem.W.specialIn K (.builtin "object.__class__") "__get__" = some (some (.builtin "getset_descriptor.__get__"))), decide (PySem.W.takesIn K (.builtin "object.__class__") = some true), decide (PySem.W.mroIn K D (.type "object") = some true)].all id
def er3One (K : PySem.W.Frag) (i : Nat) (n : Str) : List Bool :=
  [er3K K (He.ga K n), (List.range 3).all fun j => match er3N[j]? with
      | some m => decide (PySem.W.kitOne K (.ref (He.ga K n)) (.ref (He.ga K m)) = some (decide (i = j)))
      | none => true,
   decide (PySem.W.exmAny K (.ref (He.ga K n)) [.ref (He.ga K "WrongValue"), .ref (He.ga K "WrongName"), .ref (He.ga K "NoAnswer")] = some true),
   He.eqO (PySem.W.findIn K (.ref (He.ga K n)) (er3F i)) (some none)]
def er3All (K : PySem.W.Frag) : Bool := (List.range 3).all fun i => match er3N[i]? with
  | some n => (er3One K i n).all id
  | none => true
def iAd (K : PySem.W.Frag) (C : Addr) : Addr := match PySem.W.findIn K (.ref C) "__init__" with
  | some (some (.ref f)) => f
  | _ => 0
end Z

namespace K11
open PySem PySem.Spec PyProof.Rows L2 Z
def topS (i : Nat) : Stmt := PySem.Challenge.pw_evenboxes_k25_sharing_refused.main.body.getD i (.Pass ⟨0, 0, 0, 0⟩)
/-- the address of __init__'s default -/
def dA (K : PySem.W.Frag) : Addr := match K.lookup (He.fAd K ("Order", some "__init__")) with
  | some ⟨_, _, .func fd, _⟩ => match fd.defaults with
    | .ref T => match K.lookup T with
      | some ⟨_, _, .seq its _, _⟩ => match (its[0]? : Option Value) with
        | some (Value.ref e) => e
        | _ => 0
      | _ => 0
    | _ => 0
  | _ => 0

abbrev s_Order_people : Stmt := inClass (topS 36) 4
def pA_people (K : PySem.W.Frag) : Addr := match PySem.W.findIn K (.ref (He.ga K "Order")) "people" with
  | some (some (.ref p)) => p
  | _ => 0
def gA_people (K : PySem.W.Frag) : Addr := match PySem.W.recIn K (pA_people K) "property" with
  | some (.ref g :: _) => g
  | _ => 0
abbrev s_InvalidNumber__init : Stmt := inClass (topS 4) 0
abbrev s_NotAnOrder__init : Stmt := inClass (topS 6) 0
def gW (K : PySem.W.Frag) (a : Addr) : He.FnW := match K.lookup a with
  | some ⟨_, _, .func fd, _⟩ => some (fd.name, fd.qualname, fd.params, fd.body, fd.scope, fd.globals, fd.closure, fd.builtins)
  | _ => none
def gB (K : PySem.W.Frag) (a : Addr) (q : Str) : Bool := PySem.W.keepIn K (.ref a) && match K.lookup a with
  | some ⟨_, _, .func fd, _⟩ => PySem.W.codeIn K fd.code q && decide (fd.defaults = .none)
  | _ => false
def recB (K : PySem.W.Frag) (p g : Addr) : Bool := match PySem.W.recIn K p "property" with
  | some (.ref k :: _) => decide (k = g)
  | _ => false
def fn : List He.DefD := [
  ⟨("is_integer", none), "is_integer", "is_integer", defArgs (topS 27), defBody (topS 27), defScope (topS 27), [], []⟩,
  ⟨("is_number", none), "is_number", "is_number", defArgs (topS 28), defBody (topS 28), defScope (topS 28), [], []⟩,
  ⟨("check_number", none), "check_number", "check_number", defArgs (topS 29), defBody (topS 29), defScope (topS 29), [], []⟩,
  ⟨("is_integer_within", none), "is_integer_within", "is_integer_within", defArgs (topS 30), defBody (topS 30), defScope (topS 30), [], []⟩,
  ⟨("is_tuple_of", none), "is_tuple_of", "is_tuple_of", defArgs (topS 31), defBody (topS 31), defScope (topS 31), [], []⟩,
  ⟨("is_name", none), "is_name", "is_name", defArgs (topS 32), defBody (topS 32), defScope (topS 32), [], []⟩,
  ⟨("Order", (some "__init__")), "__init__", "Order.__init__", defArgs (inClass (topS 36) 0), defBody (inClass (topS 36) 0), defScope (inClass (topS 36) 0), [], []⟩,
  ⟨("check_order", none), "check_order", "check_order", defArgs (topS 38), defBody (topS 38), defScope (topS 38), [], []⟩,
  ⟨("are_worths", none), "are_worths", "are_worths", defArgs (topS 40), defBody (topS 40), defScope (topS 40), [], []⟩,
  ⟨("_check_measures", none), "_check_measures", "_check_measures", defArgs (topS 41), defBody (topS 41), defScope (topS 41), [], []⟩,
  ⟨("_check_kinds", none), "_check_kinds", "_check_kinds", defArgs (topS 42), defBody (topS 42), defScope (topS 42), [], []⟩,
  ⟨("_check_people", none), "_check_people", "_check_people", defArgs (topS 43), defBody (topS 43), defScope (topS 43), [], []⟩,
  ⟨("_is_kind", none), "_is_kind", "_is_kind", defArgs (topS 44), defBody (topS 44), defScope (topS 44), [], []⟩,
  ⟨("_is_person", none), "_is_person", "_is_person", defArgs (topS 45), defBody (topS 45), defScope (topS 45), [], []⟩,
  ⟨("_are_refused", none), "_are_refused", "_are_refused", defArgs (topS 46), defBody (topS 46), defScope (topS 46), [], []⟩,
  ⟨("_most_people", none), "_most_people", "_most_people", defArgs (topS 47), defBody (topS 47), defScope (topS 47), [], []⟩,
  ⟨("_names", none), "_names", "_names", defArgs (topS 48), defBody (topS 48), defScope (topS 48), [], []⟩,
  ⟨("_text_of", none), "_text_of", "_text_of", defArgs (topS 49), defBody (topS 49), defScope (topS 49), [], []⟩,
  ⟨("is_sharing", none), "is_sharing", "is_sharing", defArgs (topS 93), defBody (topS 93), defScope (topS 93), [], []⟩,
  ⟨("table", none), "table", "table", defArgs (topS 94), defBody (topS 94), defScope (topS 94), [], []⟩,
  ⟨("possible", none), "possible", "possible", defArgs (topS 95), defBody (topS 95), defScope (topS 95), [], []⟩,
  ⟨("sharing", none), "sharing", "sharing", defArgs (topS 96), defBody (topS 96), defScope (topS 96), [], []⟩,
  ⟨("used", none), "used", "used", defArgs (topS 97), defBody (topS 97), defScope (topS 97), [], []⟩,
  ⟨("reason", none), "reason", "reason", defArgs (topS 106), defBody (topS 106), defScope (topS 106), [], []⟩,
  ⟨("_law_cell", none), "_law_cell", "_law_cell", defArgs (topS 108), defBody (topS 108), defScope (topS 108), [], []⟩,
  ⟨("_law_jar", none), "_law_jar", "_law_jar", defArgs (topS 109), defBody (topS 109), defScope (topS 109), [], []⟩,
  ⟨("_law_dig", none), "_law_dig", "_law_dig", defArgs (topS 110), defBody (topS 110), defScope (topS 110), [], []⟩,
  ⟨("_law_take", none), "_law_take", "_law_take", defArgs (topS 111), defBody (topS 111), defScope (topS 111), [], []⟩,
  ⟨("_law_plan", none), "_law_plan", "_law_plan", defArgs (topS 112), defBody (topS 112), defScope (topS 112), [], []⟩,
  ⟨("_law_order", none), "_law_order", "_law_order", defArgs (topS 113), defBody (topS 113), defScope (topS 113), [], []⟩,
  ⟨("_law_sort", none), "_law_sort", "_law_sort", defArgs (topS 114), defBody (topS 114), defScope (topS 114), [], []⟩,
  ⟨("_law_caught", none), "_law_caught", "_law_caught", defArgs (topS 115), defBody (topS 115), defScope (topS 115), [], []⟩,
  ⟨("_law_odd", none), "_law_odd", "_law_odd", defArgs (topS 116), defBody (topS 116), defScope (topS 116), [], []⟩,
  ⟨("_law_no_number", none), "_law_no_number", "_law_no_number", defArgs (topS 117), defBody (topS 117), defScope (topS 117), [], []⟩,
  ⟨("_law_asked", none), "_law_asked", "_law_asked", defArgs (topS 118), defBody (topS 118), defScope (topS 118), [], []⟩,
  ⟨("_law_right", none), "_law_right", "_law_right", defArgs (topS 119), defBody (topS 119), defScope (topS 119), [], []⟩,
  ⟨("law", none), "law", "law", defArgs (topS 120), defBody (topS 120), defScope (topS 120), [], []⟩]
def fa : List He.Fa := [
  .glo "_wall",
  .glo "WrongValue",
  .glo "InvalidNumber",
  .glo "InvalidText",
  .glo "NotAnOrder",
  .glo "NotNumbers",
  .glo "InvalidMeasures",
  .glo "InvalidKinds",
  .glo "InvalidPeople",
  .glo "InvalidGenerators",
  .glo "WrongName",
  .glo "NoAnswer",
  .glo "TooMany",
  .int "MOST_KINDS" 4,
  .int "MOST_PEOPLE" 3,
  .int "MOST_COUNT" 3,
  .int "MOST_WORTH" 6,
  .int "MOST_SHARE" 3,
  .int "MOST_BOXES" 12,
  .int "MOST_ROWS" 2000,
  .int "MOST_NUMBER" 1000,
  .str "_LETTERS" "abcdefghijklmnopqrstuvwxyz",
  .str "_LETTERS_AND_DIGITS" "abcdefghijklmnopqrstuvwxyz0123456789",
  .int "_LONGEST_NAME" 8,
  .glo "is_integer",
  .glo "is_number",
  .glo "check_number",
  .glo "is_integer_within",
  .glo "is_tuple_of",
  .glo "is_name",
  .int "_MOST_MEASURES" 2,
  .int "_FEWEST_PEOPLE" 2,
  .glo "Order",
  .glo "read_order",
  .glo "check_order",
  .glo "all_shares",
  .glo "are_worths",
  .glo "_check_measures",
  .glo "_check_kinds",
  .glo "_check_people",
  .glo "_is_kind",
  .glo "_is_person",
  .glo "_are_refused",
  .glo "_most_people",
  .glo "_names",
  .glo "_text_of",
  .glo "_told",
  .glo "_digit",
  .glo "_box_worth",
  .glo "_parts",
  .glo "_lowest",
  .glo "whole_due",
  .glo "point_of",
  .glo "takers",
  .glo "points_of_things",
  .glo "sides",
  .glo "steps_apart",
  .glo "common_divisor",
  .glo "_points_of_kind",
  .glo "_directions",
  .glo "_along",
  .glo "_room",
  .glo "_reaching",
  .glo "_two_steps",
  .glo "ways",
  .glo "fill",
  .glo "_row_across",
  .glo "_grids",
  .glo "_given",
  .glo "_moved",
  .glo "_joined",
  .glo "_stands",
  .glo "_step_back",
  .glo "Numbers",
  .glo "_check_generators",
  .glo "_least_generators",
  .glo "_with_multiples",
  .glo "_has_bit",
  .glo "_greatest_divisor",
  .glo "_leasts_by_first",
  .glo "_leasts",
  .glo "_holds",
  .glo "_common_generators",
  .glo "_greater",
  .glo "is_sharing",
  .glo "table",
  .glo "possible",
  .glo "sharing",
  .glo "used",
  .glo "_are_gifts",
  .glo "_worths_of",
  .glo "_worth",
  .glo "_rows_behind",
  .glo "_most_things",
  .glo "_possible",
  .glo "_with_more",
  .glo "reason",
  .glo "_law_cell",
  .glo "_law_jar",
  .glo "_law_dig",
  .glo "_law_take",
  .glo "_law_plan",
  .glo "_law_order",
  .glo "_law_sort",
  .glo "_law_caught",
  .glo "_law_odd",
  .glo "_law_no_number",
  .glo "_law_asked",
  .glo "_law_right",
  .glo "law",
  .free "isinstance",
  .free "len",
  .free "all",
  .free "any",
  .free "enumerate",
  .free "tuple",
  .free "list",
  .free "dict",
  .free "sum",
  .free "range",
  .free "int",
  .free "str",
  .free "bool",
  .free "abs",
  .free "min",
  .free "max",
  .free "divmod",
  .free "repr",
  .free "sorted",
  .free "zip",
  .free "reversed",
  .free "set",
  .free "type",
  .cls "Order",
  .mkr "Order",
  .noat "Order" "_measures",
  .noat "Order" "_kinds",
  .noat "Order" "_people",
  .noat "Order" "_text"]
abbrev R : PySem.W.OpenRow := PySem.W.OpenLaw.row PySem.Challenge.rw_evenboxes_k25_sharing_refused
abbrev qv : Program := PySem.W.view R.prog [0, 120]
def loose0 : List Str := ["_wall", "WrongValue", "InvalidNumber", "InvalidText", "NotAnOrder", "NotNumbers", "InvalidMeasures", "InvalidKinds", "InvalidPeople", "InvalidGenerators", "WrongName", "NoAnswer", "TooMany", "MOST_KINDS", "MOST_PEOPLE", "MOST_COUNT", "MOST_WORTH", "MOST_SHARE", "MOST_BOXES", "MOST_ROWS", "MOST_NUMBER", "_LETTERS", "_LETTERS_AND_DIGITS", "_LONGEST_NAME", "is_integer", "is_number", "check_number", "is_integer_within", "is_tuple_of", "is_name"]
def loose1 : List Str := ["_MOST_MEASURES", "_FEWEST_PEOPLE", "Order", "read_order", "check_order", "all_shares", "are_worths", "_check_measures", "_check_kinds", "_check_people", "_is_kind", "_is_person", "_are_refused", "_most_people", "_names", "_text_of", "_told", "_digit", "_box_worth", "_parts", "_lowest", "_AXES", "whole_due", "point_of", "takers", "points_of_things", "sides", "steps_apart", "common_divisor", "_points_of_kind"]
def loose2 : List Str := ["_directions", "_along", "_room", "_reaching", "_two_steps", "ways", "fill", "_row_across", "_grids", "_given", "_moved", "_joined", "_stands", "_step_back", "Numbers", "_check_generators", "_least_generators", "_with_multiples", "_has_bit", "_greatest_divisor", "_leasts_by_first", "_leasts", "_holds", "_common_generators", "_greater", "is_sharing", "table", "possible", "sharing", "used"]
def loose3 : List Str := ["_are_gifts", "_worths_of", "_worth", "_rows_behind", "_most_things", "_possible", "_with_more", "reason", "_law_cell", "_law_jar", "_law_dig", "_law_take", "_law_plan", "_law_order", "_law_sort", "_law_caught", "_law_odd", "_law_no_number", "_law_asked", "_law_right"]
def loose : List Str := loose0 ++ loose1 ++ loose2 ++ loose3
def lawAt : Nat := 120

def exs (K : PySem.W.Frag) : List Bool := [
  decide (PySem.W.nsIn K mainGlobals "gcd" = some (some (.builtin "math.gcd"))),
  He.eqO (PySem.W.findIn K (.ref (He.ga K "Order")) "__ne__") (some (some (.builtin "object.__ne__"))),
  decide (PySem.W.mroIn K (He.ga K "Order") (.type "object") = some true),
  He.eqO (PySem.W.findIn K (.ref (He.ga K "Order")) "__class__") (some (some (.builtin "object.__class__"))),
  decide (PySem.W.specialIn K (.builtin "object.__class__") "__get__" = some (some (.builtin "getset_descriptor.__get__"))),
  decide (PySem.W.takesIn K (.builtin "object.__class__") = some true),
  He.eqO (PySem.W.findIn K (.ref (He.ga K "Order")) "people") (some (some (.ref (pA_people K)))),
  decide (PySem.W.specialIn K (.ref (pA_people K)) "__get__" = some (some (.builtin "property.__get__"))),
  decide (PySem.W.takesIn K (.ref (pA_people K)) = some true),
  recB K (pA_people K) (gA_people K),
  gB K (gA_people K) "Order.people",
  er3All K,
  decide ((He.cT K ("_law_asked", none)).2 ≠ (He.cT K ("_law_right", none)).2),
  PySem.ErrG.erB K (He.ga K "InvalidNumber") (iAd K (He.ga K "InvalidNumber")),
  gB K (iAd K (He.ga K "InvalidNumber")) "InvalidNumber.__init__",
  PySem.ErrG.erB K (He.ga K "NotAnOrder") (iAd K (He.ga K "NotAnOrder")),
  gB K (iAd K (He.ga K "NotAnOrder")) "NotAnOrder.__init__",
  decide (PySem.W.kitOne K (.type "NoneType") (.ref (He.ga K "Order")) = some false),
  decide (PySem.W.kitOne K (.type "int") (.ref (He.ga K "Order")) = some false),
  decide (PySem.W.kitOne K (.type "bool") (.ref (He.ga K "Order")) = some false),
  decide (PySem.W.kitOne K (.type "str") (.ref (He.ga K "Order")) = some false),
  decide (PySem.W.kitOne K (.type "tuple") (.ref (He.ga K "Order")) = some false),
  decide (PySem.W.kitOne K (.type "list") (.ref (He.ga K "Order")) = some false),
  decide (PySem.W.kitOne K (.type "dict") (.ref (He.ga K "Order")) = some false)]
def ex (K : PySem.W.Frag) : Bool := (exs K).all id
def gws (K : PySem.W.Frag) : List He.FnW := [gW K (gA_people K), gW K (iAd K (He.ga K "InvalidNumber")), gW K (iAd K (He.ga K "NotAnOrder"))]
def gvs : List He.FnW := [some ("people", "Order.people", defArgs s_Order_people, FuncBody.stmts (defBody s_Order_people), defScope s_Order_people, mainGlobals, [], builtinsNs), some ("__init__", "InvalidNumber.__init__", defArgs s_InvalidNumber__init, FuncBody.stmts (defBody s_InvalidNumber__init), defScope s_InvalidNumber__init, mainGlobals, [], builtinsNs), some ("__init__", "NotAnOrder.__init__", defArgs s_NotAnOrder__init, FuncBody.stmts (defBody s_NotAnOrder__init), defScope s_NotAnOrder__init, mainGlobals, [], builtinsNs)]
def tf : List He.Defn := [("_law_asked", none), ("_law_right", none)]
def TT (K : PySem.W.Frag) : List (Addr × Str) := [((He.cT K ("_law_asked", none)).2, "_law_asked.<locals>.<lambda>"), ((He.cT K ("_law_right", none)).2, "_law_right.<locals>.<lambda>")]
/-- the objects that the facts speak of -/
def asL : List Addr := [345, 346, 312, 113, 75, 347, 313, 114, 76, 945, 940, 933, 926, 919, 912, 905, 898, 891, 886, 879, 872, 865, 858, 816, 811, 806, 799, 794, 460, 455, 450, 443, 438, 431, 424, 417, 410, 403, 393, 375, 298, 293, 286, 279, 272, 265, 256, 236, 116, 78, 58, 946, 941, 934, 927, 920, 913, 906, 899, 892, 887, 880, 873, 866, 859, 817, 812, 807, 800, 795, 461, 456, 451, 444, 439, 432, 425, 418, 411, 404, 394, 376, 299, 294, 287, 280, 273, 266, 257, 237, 224, 117, 79, 59, 3]
abbrev AlZ : Type := List He.FnW × (He.AlT × (Bool × Bool))
def obsK (g : Addr → Option Obj) (K : PySem.W.Frag) : AlZ := (gws K, He.obsT fa fn [] K, ex K, He.tabsB g tf K)
def obsZG (g : Addr → Option Obj) : AlZ := obsK g (He.frT g asL)
theorem told_of {w : World} {g : Addr → Option Obj} {hp : Heap} (hg : g = hp.get?) (e : obsZG g = (gvs, He.valT fn [] w, true, true)) : gws (He.frT hp.get? asL) = gvs ∧ He.SaysX fa fn [] tf ex w hp (He.frT hp.get? asL) := by
  subst hg
  unfold obsZG obsK at e
  injection e with a1 e
  injection e with a2 e
  injection e with a3 a4
  have tabs : ∀ q, q ∈ tf → PySem.W.codeHdIn (He.frT hp.get? asL) (He.cT (He.frT hp.get? asL) q).1 (He.cT (He.frT hp.get? asL) q).2 = true ∧ ∃ u, hp.get? (He.cT (He.frT hp.get? asL) q).2 = some u ∧ He.emptyTab u = true := by
    intro q hq
    have b := (List.all_eq_true.mp a4) q hq
    rw [Bool.and_eq_true] at b
    obtain ⟨b1, b2⟩ := b
    refine And.intro b1 ?_
    revert b2
    cases hp.get? (He.cT (He.frT hp.get? asL) q).2 with
    | none => intro b2; cases b2
    | some u => intro b2; exact Exists.intro u (And.intro rfl b2)
  refine And.intro a1 { t := a2, more := a3, hd := fun q hq => (tabs q hq).1, out := ?_, empty := ?_ }
  · intro q hq
    have ⟨u, b2, b3⟩ := (tabs q hq).2
    exact He.frT_none b2 b3
  · intro q hq
    have ⟨u, b2, b3⟩ := (tabs q hq).2
    exact b2.trans (congrArg some (He.emptyTab_eq b3))
def hk : PySem.W.Hook where
  α := AlZ
  obs := fun s => obsZG s.heap.get?
  val := fun w => (gvs, He.valT fn [] w, true, true)
  says := fun w h => ∃ K : PySem.W.Frag, K.In h ∧ gws K = gvs ∧ He.SaysX fa fn [] tf ex w h K
  of := fun _ _ e => ⟨_, He.frT_in, told_of rfl e⟩
  keeps := fun _ _ _ ⟨K, hK, c1, c⟩ k => ⟨K, PySem.W.Frag.In.keeps hK k, c1, ⟨c.t, c.more, c.hd, c.out, fun p hp => k _ _ (c.empty p hp)⟩⟩
def ob (s : PySem.W.SharedT) : AlZ := obsZG (HandSHeadRun.getT s)
theorem ob_eq (s : PySem.W.SharedT) : ob s = hk.obs s.abs := by
  have e : HandSHeadRun.getT s = s.abs.heap.get? := funext (HandSHeadRun.getT_eq s)
  unfold ob
  rw [e] <;> rfl
theorem run_three {α β γ δ : Type} {o : Option α} {f : α → β} {g : α → γ} {h : α → δ} {a : β} {b : γ} {c : δ} (h1 : o.map f = some a) (h2 : o.map g = some b) (h3 : o.map h = some c) : o.map (fun x => (f x, g x, h x)) = some (a, b, c) := by
  cases o with
  | none => cases h1
  | some x =>
    injection h1 with h1
    injection h2 with h2
    injection h3 with h3
    show some (f x, g x, h x) = some (a, b, c)
    rw [h1, h2, h3]
open HandSHeadRun PySem.W in
theorem run_looks (w : World) : (wholeF (fun p => stepQ (denQ tabQ) p w) fenceQ 20000 R.prog).map (fun x => looksF R.prog x.1.heap x.2.abs) = some true := by kernel_rfl
open HandSHeadRun PySem.W in
theorem run_seen (w : World) : (wholeF (fun p => stepQ (denQ tabQ) p w) fenceQ 20000 R.prog).map (fun x => seenQ qv loose (importedModules R.prog.main.body) (fun s => xlAt qv [] s && recOk R.toRowW.records s) x.2.abs) = some (openGood qv loose) := by kernel_rfl
open HandSHeadRun PySem.W in
theorem run_told (w : World) : (wholeF (fun p => stepQ (denQ tabQ) p w) fenceQ 20000 R.prog).map (fun x => ob x.2) = some (hk.val w) := by kernel_rfl
theorem run (w : World) : HandSHeadRun.RunEqI R qv hk ob 20000 loose w := run_three (run_looks w) (run_seen w) (run_told w)
end K11

/-! enumerate(t), t a tuple: a walk of our own. -/
namespace ZE
open PySem PySem.Spec PyProof.Rows
set_option maxHeartbeats 1000000 in
theorem enum1_meets {v : Value} {ob : Obj} {St : Heap → Prop} (B : Begins v ob St) :
    Meets (Builtin.«enumerate.__new__» ⟨[.type "enumerate", v], []⟩) (fun _ R z => St z.heap ∧
      R (.ok (.ret (.ref (z.heap.push ob).objs.size))) { z with heap := (z.heap.push ob).push { cls := .type "enumerate", data := .fields #[.none, .bool false, .ref z.heap.objs.size, rawInt 0, .none, .none] } }) :=
  .of_wp fun prog w A R z hz => by
    obtain ⟨hp, gs, dr, tk, os⟩ := z
    obtain ⟨st, fin⟩ := hz
    have sub1 := sub_enumerate
    have it1 : ∀ {A2 : Around} {E : Value → Shared → Prop} {Q : Value → Shared → Prop}, Q (.ref hp.objs.size) ⟨hp.push ob, gs, dr, tk, os⟩ → wpAny (model prog w) A2 (pyIter v) Q E ⟨hp, gs, dr, tk, os⟩ := fun q => B.iter prog w _ _ ⟨hp, gs, dr, tk, os⟩ _ st q
    wp_walk using it1
    refine wpAny_stack_any fun sk => wpAny_pure ?_
    split
    · rename_i cc _ _ _ _ _
      cases (cc == Value.type "enumerate")
      · wp_walk using it1
        exact ⟨_, rfl, fin⟩
      · wp_walk using it1
        exact ⟨_, rfl, fin⟩
    · wp_walk using it1
      exact ⟨_, rfl, fin⟩
section
variable {prog : Program} {w : World} {A : Around} {E : Value → Shared → Prop} {z : Shared}
theorem enum1_call {v : Value} {ob : Obj} {St : Heap → Prop} {Q : Value → Shared → Prop} (B : Begins v ob St) (st : St z.heap)
    (fin : ∀ h', IsEnum h' (z.heap.objs.size + 1) z.heap.objs.size 0 .none → h'.get? z.heap.objs.size = some ob → h'.objs.size = z.heap.objs.size + 2 →
      (∀ b u, z.heap.get? b = some u → h'.get? b = some u) → Q (.ref (z.heap.objs.size + 1)) { z with heap := h' }) :
    wpAny (model prog w) A (call (.type "enumerate") [v]) Q E z := by
  refine callType_new F.called_enumerate (by decide) (F.typeCall_enumerate_1 v) (F.newCall_enumerate_1 v) (fun x => F.args_object_init_2 x v) F.entry_enumerate_new (enum1_meets B) ⟨st, ?_⟩
  have sz : (z.heap.push ob).objs.size = z.heap.objs.size + 1 := Heap.size_push ..
  show _ ∧ _
  rw [sz]
  have en : IsEnum ((z.heap.push ob).push { cls := .type "enumerate", data := .fields #[.none, .bool false, .ref z.heap.objs.size, rawInt 0, .none, .none] }) (z.heap.objs.size + 1) z.heap.objs.size 0 .none := by
    have q := Heap.get?_push_size (z.heap.push ob) (o := { cls := .type "enumerate", data := .fields #[.none, .bool false, .ref z.heap.objs.size, rawInt 0, .none, .none] }) rfl
    rw [sz] at q
    exact q
  exact ⟨⟨_, en, rfl⟩, fin _ en (Heap.get?_push_of_some _ (Heap.get?_push_size _ B.free)) (by rw [Heap.size_push, sz]) fun b u x => Heap.get?_push_of_some _ (Heap.get?_push_of_some _ x)⟩
end
open L2 Z
/-- the tuple at a, each item in a new pair with its place -/
def IteT (K : PySem.W.Frag) (a : Addr) : It :=
  ⟨fun i H => ∃ (xs : List V) (x : V), SqT K H a xs ∧ xs[i]? = some x,
   fun i H v H' => ∃ T x, v = .ref T ∧ H T = none ∧ H' = upd H T (.tup [.int (i : Nat), x]) ∧ ∀ xs, SqT K H a xs → xs[i]? = some x,
   fun i H => ∃ xs : List V, SqT K H a xs ∧ xs.length ≤ i⟩
theorem turn_enumT {P : Program} {w : World} {K : PySem.W.Frag} {elts : List Expr} {kk : Nat} {tpos : Pos} (a e it : Addr) (h1 : e ≠ it) (h2 : a ≠ it) (h3 : a ≠ e) :
    Turn P w K (.Tuple elts kk tpos) (IteT K a) [e, it] e (fun i h => (∃ old, IsEnum h e it ((i : Nat) : Int) old) ∧ h.IsTupleIter it a i) where
  mem := by simp
  obj := fun i h st b hb => by
    obtain ⟨⟨old, he⟩, o, ho, hc, hd⟩ := st
    have q : b = e ∨ b = it := by simpa using hb
    rcases q with q | q
    · rw [q]
      exact ⟨_, he, fun v z => nomatch z⟩
    · rw [q]
      exact ⟨o, ho, fun v z => by
        rw [hd] at z
        cases z⟩
  keep := fun i h h' st k => by
    obtain ⟨⟨old, he⟩, hi⟩ := st
    exact ⟨⟨old, k e (by simp) _ he⟩, hi.at fun o z => k it (by simp) o z⟩
  item := by
    intro X hP hw hK hc i pins s σ H E I hf st hg
    subst hP hw hK
    obtain ⟨⟨old, he⟩, hit⟩ := st
    obtain ⟨xs, x, hq, hx⟩ := hg
    obtain ⟨its, rv, p, _⟩ := I.tuple hq
    obtain ⟨u, hu, ru⟩ := rv.get hx
    have le : e < s.heap.objs.size := Heap.lt_size he
    have li : it < s.heap.objs.size := by
      obtain ⟨_, z, _⟩ := hit
      exact Heap.lt_size z
    have lt : i < its.toArray.size := by
      have z := (List.getElem?_eq_some_iff.mp hu).1
      simpa using z
    have hh : X.A.in1.handled = none := I.ok.hd hc
    refine wpAny_pyNext_enum_itemD (Draws.tuple hh it a h2 its.toArray) he ⟨hit, p⟩ lt h1 (by simp [h1, Ne.symm h3]) fun u' h' tk hP ho hst hT hsz hk => ?_
    obtain rfl : u = u' := by
      have z : its[i]? = some u' := by simpa using hP
      rw [hu] at z
      exact Option.some.inj z
    refine ⟨_, rfl, wpAny_letOwnedTupleGo_enum (s := { s with heap := h', toks := tk + 1 }) ho fun h'' he' sb => ?_⟩
    have hT2 : h''.get? s.heap.objs.size = some { cls := .type "tuple", data := .seq #[.int i tk, u] } := (sb.2 _ (Nat.ne_of_gt le)).trans hT
    have new : ObjOk X.prog X.w (upd H s.heap.objs.size (.tup [.int (i : Nat), x])) h'' s.heap.objs.size (.tup [.int (i : Nat), x]) :=
      ⟨by show 2 ≤ sizeLine; decide, [.int i tk, u], .cons ⟨_, rfl⟩ (.cons ru .nil), ⟨_, hT2, rfl, _, rfl⟩⟩
    have I1 : Inv X pins σ (upd H s.heap.objs.size (.tup [.int (i : Nat), x])) { s with heap := h'', toks := tk + 1 } := by
      refine I.turnedNew (ch := [e, it]) (fun b ob hb q => ?_) hf (Nat.le_refl _) new
      have be : b ≠ e := fun z => hb (by simp [z])
      have bi : b ≠ it := fun z => hb (by simp [z])
      exact (sb.2 b be).trans (hk b ob be bi q)
    refine ⟨.ref s.heap.objs.size, _, I1, rfl, ⟨_, x, rfl, I.hok.fresh (Nat.le_refl _), rfl, fun ys hy => by rw [I.tuple_inj hy hq]; exact hx⟩, ⟨⟨u, ?_⟩, hst.1.at fun o q => (sb.2 it (Ne.symm h1)).trans q⟩, fun b hb => ?_⟩
    · have z : ((i + 1 : Nat) : Int) = (i : Int) + 1 := by omega
      rw [z]
      exact he'
    · have lb : b < s.heap.objs.size := by
        have q : b = e ∨ b = it := by simpa using hb
        rcases q with q | q
        · rw [q]
          exact le
        · rw [q]
          exact li
      rw [upd_ne (Nat.ne_of_lt lb)]
      exact (hf b hb).1
  done := by
    intro X hP hw hK hc i pins s σ H E I hf st hg
    subst hP hw hK
    obtain ⟨⟨old, he⟩, hit⟩ := st
    obtain ⟨xs, hq, hx⟩ := hg
    obtain ⟨its, rv, p, _⟩ := I.tuple hq
    obtain ⟨f0, f1, f2, f3, f4, f5⟩ := hf it (by simp)
    have hl := rv.length
    have hT : s.TypeIs (.ref e) "enumerate" := ⟨_, he, rfl⟩
    unfold pyNext
    refine wpAny_bind (wpAny_attempt (wpAny_callSpecial?_slot (name := Str.ofString "__next__") hT F.slot_enumerate_next
      (wpAny_call_entry F.slot_enumerate_next hT F.entry_enumerate_next ?_ (F.args_enumerate_next_1 _))))
    show wpAny _ _ (field (.ref e) 2 >>= _) _ _ _
    refine wpAny_bind (wpAny_field he rfl (x := .ref it) rfl ?_)
    have hh : X.A.in1.handled = none := I.ok.hd hc
    refine wpAny_bind (wpAny_nextOf_tuple_end hh hit p (by simp; omega) fun h' x eb hx' => ?_)
    obtain ⟨o, ho, hcl⟩ := hx'
    refine wpAny_bind (wpAny_isInstance (T := "StopIteration") (b := true) ⟨o, ho, hcl⟩ isSubtype_stop ?_)
    exact wpAny_pure ⟨rfl, I.turned (t' := s.toks) (fun b o hb q => eb b o hb q) f0 f1 f3 f4 f5⟩
  self := fun A i s Q E st h => let ⟨⟨_, he⟩, _⟩ := st; wpAny_pyIter_enum he h
def iEnumT (K : PySem.W.Frag) (ta : TA) : TI := fun σ H R => ta σ H fun vs H1 => ∃ a xs, vs = [.ref a] ∧ SqT K H1 a xs ∧ R (IteT K a) H1
theorem pi_enumT {X : Cx} {e : Expr} {ta : TA} {p pos tpos : Pos} {elts : List Expr} {kk : Nat} (hg : Gl X "enumerate") (hm : X.mg "enumerate" = none) (ha : PA X [e] ta) (hs : starEach [e] X.env = [(false, eval e X.env)] := by rfl) :
    PI X (.Tuple elts kk tpos) (.Call (.Name "enumerate" p) [e] [] pos) (iEnumT X.K ta) := by
  refine ⟨fun pins s σ H R I h => ?_⟩
  refine Call_ (ld_blt I hg hm boot_enumerate (PyProof.Rows.callWith_type1 (thn (ha.run pos pins s σ H _ I h) fun us s1 ⟨vs, H1, I1, r1, q1⟩ => ?_) hs rfl))
  obtain ⟨a, xs, ex, hq, q⟩ := q1
  subst ex
  cases r1 with
  | cons r rr =>
    cases rr
    cases r
    obtain ⟨its, rv, p', _⟩ := I1.tuple hq
    have la : a < s1.heap.objs.size := by
      obtain ⟨o, ho, _⟩ := id p'
      exact Heap.lt_size ho
    refine enum1_call (begins_tuple a its.toArray) p' fun h' he hit hsz hk => wpAny_pyIter_enum he ?_
    have I2 : Inv X pins σ H1 { s1 with heap := h' } := I1.kept (t' := s1.toks) hk
    refine ⟨s1.heap.objs.size + 1, [s1.heap.objs.size + 1, s1.heap.objs.size], _, _, H1, rfl, I2, turn_enumT a (s1.heap.objs.size + 1) s1.heap.objs.size (Nat.succ_ne_self _) (Nat.ne_of_lt la) (Nat.ne_of_lt (Nat.lt_succ_of_lt la)), ⟨⟨.none, he⟩, ⟨_, hit, rfl, rfl⟩⟩, fun b hb => ?_, q⟩
    have hle : s1.heap.objs.size ≤ b := by
      have q : b = s1.heap.objs.size + 1 ∨ b = s1.heap.objs.size := by simpa using hb
      rcases q with q | q
      · rw [q]
        exact Nat.le_succ _
      · rw [q]
        exact Nat.le_refl _
    exact I1.fpOk hle (I1.hok.fresh hle)
theorem walk_enumT {K : PySem.W.Frag} {a : Addr} {xs : List V} : Walk (IteT K a) xs.length (fun H => SqT K H a xs) (YPair (fun i => some (.int (i : Nat))) (fun i => xs[i]?)) := by
  refine ⟨fun i _ hi q => ⟨xs, xs[i], q, by simp [hi]⟩, fun _ q => ⟨xs, q, Nat.le_refl _⟩, fun i H v H' _ q y => ?_⟩
  obtain ⟨T, x, h1, h2, h3, h4⟩ := y
  exact ⟨T, .int (i : Nat), x, h1, h2, h3, rfl, h4 xs q⟩
end ZE

namespace Z
open PySem PySem.Spec PyProof.Rows L2
section
variable {K : PySem.W.Frag} {g : TG} {te tl : TE} {vs : List Nat} {σ : L2.St} {H : Hp} {Q : VK} {a : Addr} {xs : List V}
/-- [e for x in t], t a tuple, over lists that may change -/
theorem lcT (ht : ∀ R : VK, R (.ref a) H → tl σ H R) (hS : SqT K H a xs) (hn : xs.length ≤ 90000) (m : Addr → Prop) (I : Hp → Prop) (R : Nat → V → Hp → Prop)
    (hm : ∀ b, m b → H b ≠ none) (hI : I H) (hIu : ∀ H' D o, H D = none → Gr m H H' → I H' → I (upd H' D o)) (hR : ∀ i y H' H'', R i y H' → Gr any H' H'' → R i y H'')
    (hs : ∀ (i : Nat) (x : V) (H' : Hp) (Q' : VK), xs[i]? = some x → Gr m H H' → I H' → (∀ y H3, Gr m H' H3 → I H3 → R i y H3 → Q' y H3) → g x (wipe σ vs) H' fun σ2 H2 => wipe σ2 vs = wipe σ vs ∧ te σ2 H2 Q')
    (k : ∀ D ys H', H D = none → Gr m H H' → I H' → H' D = some (.lst ys) → ys.length = xs.length → (∀ i y, ys[i]? = some y → R i y H') → Q (.ref D) H') : tLc (iTup K tl) g tYes te vs σ H Q :=
  ht _ ⟨a, rfl, ⟨xs, hS⟩, lc_all (H := H) walk_tup m I R hn (fun H' e => e.seqT hS) hm hI hIu hR (fun i x H' H'' Q' hi g1 g2 ⟨e, hx⟩ q => by
    subst e
    exact hs i x _ Q' hx g1 g2 q) k⟩
theorem lcL (ht : ∀ R : VK, R (.ref a) H → tl σ H R) (hS : SqL K H a xs) (hn : xs.length ≤ 90000) (m : Addr → Prop) (ha : ¬ m a) (I : Hp → Prop) (R : Nat → V → Hp → Prop)
    (hm : ∀ b, m b → H b ≠ none) (hI : I H) (hIu : ∀ H' D o, H D = none → Gr m H H' → I H' → I (upd H' D o)) (hR : ∀ i y H' H'', R i y H' → Gr any H' H'' → R i y H'')
    (hs : ∀ (i : Nat) (x : V) (H' : Hp) (Q' : VK), xs[i]? = some x → Gr m H H' → I H' → (∀ y H3, Gr m H' H3 → I H3 → R i y H3 → Q' y H3) → g x (wipe σ vs) H' fun σ2 H2 => wipe σ2 vs = wipe σ vs ∧ te σ2 H2 Q')
    (k : ∀ D ys H', H D = none → Gr m H H' → I H' → H' D = some (.lst ys) → ys.length = xs.length → (∀ i y, ys[i]? = some y → R i y H') → Q (.ref D) H') : tLc (iList K tl) g tYes te vs σ H Q :=
  ht _ ⟨a, rfl, ⟨xs, hS⟩, lc_all (H := H) walk_list m I R hn (fun H' e => e.seqL hS ha) hm hI hIu hR (fun i x H' H'' Q' hi g1 g2 ⟨e, hx⟩ q => by
    subst e
    exact hs i x _ Q' hx g1 g2 q) k⟩
/-- nothing changes, each element told by its place -/
theorem lcT0 (ht : ∀ R : VK, R (.ref a) H → tl σ H R) (hS : SqT K H a xs) (hn : xs.length ≤ 90000) (R : Nat → V → Hp → Prop) (hR : ∀ i y H' H'', R i y H' → Gr any H' H'' → R i y H'')
    (hs : ∀ (i : Nat) (x : V) (H' : Hp) (Q' : VK), xs[i]? = some x → Ex H H' → (∀ y H3, Ex H' H3 → R i y H3 → Q' y H3) → g x (wipe σ vs) H' fun σ2 H2 => wipe σ2 vs = wipe σ vs ∧ te σ2 H2 Q')
    (k : ∀ D ys H', H D = none → Ex H H' → H' D = some (.lst ys) → ys.length = xs.length → (∀ i y, ys[i]? = some y → R i y H') → Q (.ref D) H') : tLc (iTup K tl) g tYes te vs σ H Q :=
  lcT ht hS hn nob (fun _ => True) R (fun _ q => q.elim) trivial (fun _ _ _ _ _ _ => trivial) hR (fun i x H' Q' h1 h2 _ q => hs i x H' Q' h1 h2 fun y H3 e r => q y H3 e trivial r) fun D ys H' h1 h2 _ h3 h4 h5 => k D ys H' h1 h2 h3 h4 h5
theorem lcL0 (ht : ∀ R : VK, R (.ref a) H → tl σ H R) (hS : SqL K H a xs) (hn : xs.length ≤ 90000) (R : Nat → V → Hp → Prop) (hR : ∀ i y H' H'', R i y H' → Gr any H' H'' → R i y H'')
    (hs : ∀ (i : Nat) (x : V) (H' : Hp) (Q' : VK), xs[i]? = some x → Ex H H' → (∀ y H3, Ex H' H3 → R i y H3 → Q' y H3) → g x (wipe σ vs) H' fun σ2 H2 => wipe σ2 vs = wipe σ vs ∧ te σ2 H2 Q')
    (k : ∀ D ys H', H D = none → Ex H H' → H' D = some (.lst ys) → ys.length = xs.length → (∀ i y, ys[i]? = some y → R i y H') → Q (.ref D) H') : tLc (iList K tl) g tYes te vs σ H Q :=
  lcL ht hS hn nob id (fun _ => True) R (fun _ q => q.elim) trivial (fun _ _ _ _ _ _ => trivial) hR (fun i x H' Q' h1 h2 _ q => hs i x H' Q' h1 h2 fun y H3 e r => q y H3 e trivial r) fun D ys H' h1 h2 _ h3 h4 h5 => k D ys H' h1 h2 h3 h4 h5
theorem ext_of {ys zs : List V} (hl : ys.length = zs.length) (h : ∀ (i : Nat) (y : V), ys[i]? = some y → zs[i]? = some y) : ys = zs := by
  refine List.ext_getElem? fun i => ?_
  by_cases hi : i < ys.length
  · rw [h i ys[i] (List.getElem?_eq_getElem hi), List.getElem?_eq_getElem hi]
  · rw [List.getElem?_eq_none (by omega), List.getElem?_eq_none (by omega)]
/-- the elements are those of a known list -/
theorem lcTf (ht : ∀ R : VK, R (.ref a) H → tl σ H R) (hS : SqT K H a xs) (hn : xs.length ≤ 90000) (zs : List V) (hz : zs.length = xs.length)
    (hs : ∀ (i : Nat) (x z : V) (H' : Hp) (Q' : VK), xs[i]? = some x → zs[i]? = some z → Ex H H' → (∀ H3, Ex H' H3 → Q' z H3) → g x (wipe σ vs) H' fun σ2 H2 => wipe σ2 vs = wipe σ vs ∧ te σ2 H2 Q')
    (k : ∀ D H', H D = none → Ex H H' → H' D = some (.lst zs) → Q (.ref D) H') : tLc (iTup K tl) g tYes te vs σ H Q := by
  refine lcT0 ht hS hn (fun i y _ => zs[i]? = some y) (fun _ _ _ _ q _ => q) (fun i x H' Q' hx e q => ?_) fun D ys H' hD e h1 h2 h3 => ?_
  · have hi : i < zs.length := by
      rw [hz]
      exact (List.getElem?_eq_some_iff.mp hx).1
    exact hs i x zs[i] H' Q' hx (List.getElem?_eq_getElem hi) e fun H3 e3 => q _ H3 e3 (List.getElem?_eq_getElem hi)
  · rw [ext_of (h2.trans hz.symm) h3] at h1
    exact k D H' hD e h1
theorem lcLf (ht : ∀ R : VK, R (.ref a) H → tl σ H R) (hS : SqL K H a xs) (hn : xs.length ≤ 90000) (zs : List V) (hz : zs.length = xs.length)
    (hs : ∀ (i : Nat) (x z : V) (H' : Hp) (Q' : VK), xs[i]? = some x → zs[i]? = some z → Ex H H' → (∀ H3, Ex H' H3 → Q' z H3) → g x (wipe σ vs) H' fun σ2 H2 => wipe σ2 vs = wipe σ vs ∧ te σ2 H2 Q')
    (k : ∀ D H', H D = none → Ex H H' → H' D = some (.lst zs) → Q (.ref D) H') : tLc (iList K tl) g tYes te vs σ H Q := by
  refine lcL0 ht hS hn (fun i y _ => zs[i]? = some y) (fun _ _ _ _ q _ => q) (fun i x H' Q' hx e q => ?_) fun D ys H' hD e h1 h2 h3 => ?_
  · have hi : i < zs.length := by
      rw [hz]
      exact (List.getElem?_eq_some_iff.mp hx).1
    exact hs i x zs[i] H' Q' hx (List.getElem?_eq_getElem hi) e fun H3 e3 => q _ H3 e3 (List.getElem?_eq_getElem hi)
  · rw [ext_of (h2.trans hz.symm) h3] at h1
    exact k D H' hD e h1
/-- [x for x in l if t] -/
theorem lcFilt {tt : TT} {j : Nat} (ht : ∀ R : VK, R (.ref a) H → tl σ H R) (hS : SqL K H a xs) (hn : xs.length ≤ 90000) (hj : j < σ.length) (p : V → Bool)
    (hs : ∀ (x : V) (H' : Hp) (F : Bool → Hp → Prop), x ∈ xs → Ex H H' → (∀ H3, Ex H' H3 → F (p x) H3) → tt ((wipe σ [j]).set j (some x)) H' F)
    (k : ∀ D H', H D = none → Ex H H' → H' D = some (.lst (xs.filter p)) → Q (.ref D) H') : tLc (iList K tl) (gName j) tt (tVar j) [j] σ H Q := by
  refine ht _ ⟨a, rfl, ⟨xs, hS⟩, fun D hD => lc_it walk_list (fun i H' => Ex H H' ∧ H' D = some (.lst ((xs.take i).filter p))) ⟨.new hD, upd_same⟩ (fun i H' _ q => q.1.seqL hS id) ?_ ?_⟩
  · rintro i x H' H'' hi ⟨q1, q2⟩ ⟨e, hx⟩
    subst e
    have hjl : j < (wipe σ [j]).length := by
      rw [wipe_length]
      exact hj
    refine ⟨?_, ?_⟩
    · show ((wipe σ []).set j none |>.set j (some x)).set j none = (wipe σ []).set j none
      rw [List.set_set, List.set_set]
    · have et : xs.take (i + 1) = xs.take i ++ [x] := by
        rw [List.take_add_one, hx]
        rfl
      refine hs x _ _ (List.mem_of_getElem? hx) q1 fun H3 e3 => ?_
      have e4 := e3.get q2
      cases hp : p x
      · refine iteF ⟨q1.trans e3, ?_⟩
        rw [et, List.filter_append, List.filter_cons, hp]
        simpa using e4
      · refine iteT ⟨x, List.getElem?_set_self hjl, _, e4, smallt ?_, (q1.trans e3).put e4 (.inl hD), ?_⟩
        · have h1 := List.length_filter_le p (xs.take i)
          rw [List.length_take] at h1
          omega
        · rw [upd_same, et, List.filter_append, List.filter_cons, hp]
          rfl
  · rintro H' ⟨q1, q2⟩
    rw [List.take_length] at q2
    exact k D H' hD q1 q2
end
abbrev rLenQ (K : PySem.W.Frag) : List V → Hp → VK → Prop := fun xs H Q => ∃ p ys, xs = [.ref p] ∧ (SqL K H p ys ∨ SqT K H p ys) ∧ Q (.int ys.length) H
abbrev rTupOf (K : PySem.W.Frag) : List V → Hp → VK → Prop := fun xs H Q => ∃ p ys, xs = [.ref p] ∧ ((SqL K H p ys ∧ ∀ l, H l = none → Q (.ref l) (upd H l (.tup ys))) ∨ (SqT K H p ys ∧ Q (.ref p) H))
section
variable {K : PySem.W.Frag} {H : Hp}
theorem DTs.len {xs : List V} {ds : List D} (h : DTs K H xs ds) : xs.length = ds.length := by
  induction ds generalizing xs with
  | nil => cases h; rfl
  | cons d ds ih =>
    cases h with
    | cons h1 h2 => rw [List.length_cons, List.length_cons, ih h2]
theorem DTs.get {xs : List V} {ds : List D} (h : DTs K H xs ds) {i : Nat} {x : V} (hx : xs[i]? = some x) : ∃ d, ds[i]? = some d ∧ DT K H x d := by
  induction ds generalizing xs i with
  | nil => cases h; simp at hx
  | cons d ds ih =>
    cases h with
    | cons h1 h2 =>
      cases i with
      | zero =>
        cases hx
        exact ⟨d, rfl, h1⟩
      | succ i => exact ih h2 (i := i) (by simpa using hx)
theorem DTs.three {xs : List V} {l : List D} (h : DTs K H xs l) (hn : xs.length = 3) : ∃ x1 x2 x3 d1 d2 d3, xs = [x1, x2, x3] ∧ l = [d1, d2, d3] ∧ DT K H x1 d1 ∧ DT K H x2 d2 ∧ DT K H x3 d3 := by
  cases h with
  | nil => cases hn
  | cons h1 h =>
    cases h with
    | nil => cases hn
    | cons h2 h =>
      cases h with
      | nil => cases hn
      | cons h3 h =>
        cases h with
        | nil => exact ⟨_, _, _, _, _, _, rfl, rfl, h1, h2, h3⟩
        | cons h4 h =>
          simp at hn
theorem DTs.strs {xs : List V} {ss : List Str} (h : DTs K H xs (ss.map D.str)) : xs = ss.map V.str := by
  induction ss generalizing xs with
  | nil => cases h; rfl
  | cons s ss ih =>
    cases h with
    | cons h1 h2 =>
      cases h1
      rw [ih h2]
      rfl
theorem DTs.ofStrs (ss : List Str) : DTs K H (ss.map V.str) (ss.map D.str) := by
  induction ss with
  | nil => exact .nil
  | cons s ss ih => exact .cons (.str s) ih
theorem DTs.ofInts (ns : List Int) : DTs K H (ns.map V.int) (ns.map D.int) := by
  induction ns with
  | nil => exact .nil
  | cons s ss ih => exact .cons (.int s) ih
theorem DTs.ints {xs : List V} {ns : List Int} (h : DTs K H xs (ns.map D.int)) : xs = ns.map V.int := by
  induction ns generalizing xs with
  | nil => cases h; rfl
  | cons s ss ih =>
    cases h with
    | cons h1 h2 =>
      cases h1
      rw [ih h2]
      rfl
end
end Z
namespace Z
open PySem PySem.Spec PyProof.Rows L2
section
variable {K : PySem.W.Frag} {H : Hp}
theorem dp_strs (ss : List Str) : DpAll K H (ss.map V.str) (ss.map PyData.str) := by
  induction ss with
  | nil => exact .nil
  | cons s ss ih => exact .cons (.str s) ih
end
theorem eqv_strs : ∀ ss ts : List Str, PyData.eqvAll (ss.map PyData.str) (ts.map PyData.str) = decide (ss = ts)
  | [], [] => by simp [PyData.eqvAll]
  | [], _ :: _ => by simp [PyData.eqvAll]
  | _ :: _, [] => by simp [PyData.eqvAll]
  | s :: ss, t :: ts => by
    simp only [List.map_cons, PyData.eqvAll, PyData.eqv]
    rw [eqv_strs ss ts]
    by_cases h : s = t
    · subst h
      simp
    · simp [h]
theorem lay_strs : ∀ {ss : List Str}, (∀ s ∈ ss, PyData.strOk s = true) → PyData.canLayAll0 (ss.map PyData.str) = true
  | [], _ => rfl
  | s :: ss, h => by
    simp only [List.map_cons, PyData.canLayAll0, PyData.canLay0, Bool.and_eq_true]
    exact ⟨h s (List.mem_cons_self ..), lay_strs fun t ht => h t (List.mem_cons_of_mem _ ht)⟩
theorem depth_strs : ∀ ss : List Str, PyData.depthAll (ss.map PyData.str) = 0
  | [] => rfl
  | s :: ss => by
    simp only [List.map_cons, PyData.depthAll, PyData.depth]
    rw [depth_strs ss]
    rfl
theorem shaped_strs {ss : List Str} (h : ∀ s ∈ ss, PyData.strOk s = true) : SeqAt.shaped (.tuple (ss.map PyData.str)) = true := by
  unfold SeqAt.shaped
  rw [Bool.and_eq_true]
  refine ⟨by simp only [PyData.canLay0]; exact lay_strs h, decide_eq_true ?_⟩
  simp only [PyData.depth]
  rw [depth_strs]
  decide
theorem strOk_of {s : Str} (h : nameOk s = true) : PyData.strOk s = true := by
  unfold nameOk at h
  rw [Bool.and_eq_true] at h
  have h2 := h.2
  unfold PyData.strOk
  rw [← Array.all_toList, List.all_eq_true]
  intro c hc
  have h3 := List.all_eq_true.mp h2 c hc
  unfold lowdig lower at h3
  simp only [Bool.or_eq_true, Bool.and_eq_true, decide_eq_true_eq] at h3
  simp only [decide_eq_true_eq]
  omega
theorem inV_strs (s : Str) (ss : List Str) : inV (.str s) (ss.map V.str) = decide (s ∈ ss) := by
  induction ss with
  | nil => rfl
  | cons t ss ih =>
    have e : inV (.str s) ((t :: ss).map V.str) = (eqV (.str t) (.str s) || inV (.str s) (ss.map V.str)) := rfl
    rw [e, ih]
    have e2 : eqV (.str t) (.str s) = (t == s) := rfl
    rw [e2]
    by_cases h : t = s
    · subst h
      simp
    · simp [h, Ne.symm h]
theorem flat_strs (ss : List Str) : (ss.map V.str).all flatV = true := by
  rw [List.all_eq_true]
  intro v hv
  obtain ⟨s, _, rfl⟩ := List.mem_map.mp hv
  rfl
theorem filter_strs (p : V → Bool) (ss : List Str) : (ss.map V.str).filter p = (ss.filter fun s => p (.str s)).map V.str := by
  rw [List.filter_map]
  rfl
end Z

namespace Z
open PySem PySem.Spec PyProof.Rows L2 ZE
section
variable {K : PySem.W.Frag} {g : TG} {tb : TS} {tl : TE} {ta : TA} {Dn : Ends} {σ : L2.St} {H : Hp} {a : Addr} {xs : List V}
/-! ### loops -/
theorem forE (ht : ∀ R : List V → Hp → Prop, R [.ref a] H → ta σ H R) (hS : SqT K H a xs) (Pv : Nat → L2.St → Hp → Prop) (h0 : Pv 0 σ H) (hG : ∀ i σ' H', Pv i σ' H' → SqT K H' a xs)
    (hs : ∀ (i : Nat) (x : V) T σ' H', xs[i]? = some x → Pv i σ' H' → H' T = none → g (.ref T) σ' (upd H' T (.tup [.int (i : Int), x])) fun σ2 H2 => tb { Dn with nx := Pv (i + 1), ct := Pv (i + 1), bk := Dn.nx } σ2 H2)
    (hd : ∀ σ' H', Pv xs.length σ' H' → Dn.nx σ' H') : tFor (iEnumT K ta) g tb Dn σ H :=
  ht _ ⟨a, xs, rfl, hS, for_it walk_enumT Pv h0 (fun i σ' H' _ p => hG i σ' H' p) (fun i x σ' H' H'' hi p y => by
    obtain ⟨T, u, v, rfl, hT, rfl, h1, h2⟩ := y
    cases h1
    exact hs i v T σ' H' h2 p hT) hd⟩
theorem forTp (ht : ∀ R : VK, R (.ref a) H → tl σ H R) (hS : SqT K H a xs) (Pv : Nat → L2.St → Hp → Prop) (h0 : Pv 0 σ H) (hG : ∀ i σ' H', Pv i σ' H' → SqT K H' a xs)
    (hs : ∀ (i : Nat) (x : V) σ' H', xs[i]? = some x → Pv i σ' H' → g x σ' H' fun σ2 H2 => tb { Dn with nx := Pv (i + 1), ct := Pv (i + 1), bk := Dn.nx } σ2 H2)
    (hd : ∀ σ' H', Pv xs.length σ' H' → Dn.nx σ' H') : tFor (iTup K tl) g tb Dn σ H :=
  ht _ ⟨a, rfl, ⟨xs, hS⟩, for_tup Pv h0 (fun i σ' H' _ p => hG i σ' H' p) (fun i x σ' H' hx p => hs i x σ' H' hx p) hd⟩
theorem forLs (ht : ∀ R : VK, R (.ref a) H → tl σ H R) (hS : SqL K H a xs) (Pv : Nat → L2.St → Hp → Prop) (h0 : Pv 0 σ H) (hG : ∀ i σ' H', Pv i σ' H' → SqL K H' a xs)
    (hs : ∀ (i : Nat) (x : V) σ' H', xs[i]? = some x → Pv i σ' H' → g x σ' H' fun σ2 H2 => tb { Dn with nx := Pv (i + 1), ct := Pv (i + 1), bk := Dn.nx } σ2 H2)
    (hd : ∀ σ' H', Pv xs.length σ' H' → Dn.nx σ' H') : tFor (iList K tl) g tb Dn σ H :=
  ht _ ⟨a, rfl, ⟨xs, hS⟩, for_list Pv h0 (fun i σ' H' _ p => hG i σ' H' p) (fun i x σ' H' hx p => hs i x σ' H' hx p) hd⟩
theorem forSt {z : Str} (ht : ∀ R : VK, R (.str z) H → tl σ H R) (Pv : Nat → L2.St → Hp → Prop) (h0 : Pv 0 σ H)
    (hs : ∀ (i c : Nat) σ' H', z.cps.toList[i]? = some c → Pv i σ' H' → g (.str ⟨#[c]⟩) σ' H' fun σ2 H2 => tb { Dn with nx := Pv (i + 1), ct := Pv (i + 1), bk := Dn.nx } σ2 H2)
    (hd : ∀ σ' H', Pv z.cps.toList.length σ' H' → Dn.nx σ' H') : tFor (iStr tl) g tb Dn σ H :=
  ht _ ⟨z, rfl, for_it walk_str Pv h0 (fun _ _ _ _ _ => trivial) (fun i x σ' H' H'' hi p y => by
    obtain ⟨rfl, c, h1, rfl⟩ := y
    exact hs i c σ' H'' (by rw [Array.getElem?_toList]; exact h1) p) fun σ' H' p => hd σ' H' (by rw [Array.length_toList]; exact p)⟩
/-- for i in range(n) -/
theorem forR {n : Int} (ht : ∀ R : List V → Hp → Prop, R [.int n] H → ta σ H R) (hn : 0 ≤ n ∧ n ≤ 100000) (Pv : Nat → L2.St → Hp → Prop) (h0 : Pv 0 σ H)
    (hs : ∀ (i : Nat) σ' H', (i : Int) < n → Pv i σ' H' → g (.int (i : Int)) σ' H' fun σ2 H2 => tb { Dn with nx := Pv (i + 1), ct := Pv (i + 1), bk := Dn.nx } σ2 H2)
    (hd : ∀ σ' H', Pv n.toNat σ' H' → Dn.nx σ' H') : tFor (iRng1 ta) g tb Dn σ H :=
  ht _ ⟨n, rfl, by omega, by omega, for_range (lo := 0) (n := n.toNat) Pv h0 (fun i σ' H' hi p => by
    have e0 : (0 : Int) + (i : Int) = (i : Int) := Int.zero_add _
    rw [e0]
    exact hs i σ' H' (by omega) p) hd⟩
/-! ### slices -/
theorem cut_take (i : Nat) : cutV xs none (some (i : Int)) = xs.take i := by
  unfold cutV
  rw [show HT.sIx xs.length xs.length (some (i : Int)) = min i xs.length from HT.sIx_nat xs.length xs.length i, HT.sIx_none]
  rw [List.drop_zero, Nat.sub_zero]
  by_cases h : i ≤ xs.length
  · rw [Nat.min_eq_left h]
  · rw [Nat.min_eq_right (by omega), List.take_length, List.take_of_length_le (by omega)]
theorem slA_take {Q : VK} {i : Nat} (hS : SqT K H a xs) (k : ∀ p H', Ex H H' → SqT K H' p (xs.take i) → Q (.ref p) H') : rSlA K (.ref a) none (some (i : Int)) H Q := by
  refine ⟨a, xs, rfl, hS, fun h => ?_, fun _ p hp => ?_⟩
  · have e : cutV xs none (some (i : Int)) = xs := by
      unfold cutV
      rw [h.1, h.2, List.drop_zero, Nat.sub_zero, List.take_length]
    rw [cut_take] at e
    exact k a H .refl (by rw [e]; exact hS)
  · rw [cut_take]
    exact k p _ (.new hp) (sqT upd_same)
end
/-! ### orders as data -/
structure Kd where
  n : Str
  c : Int
  w : List Int
structure Pn where
  n : Str
  s : Int
  r : List Str
def Kd.d (k : Kd) : D := .tup [.str k.n, .int k.c, .tup (k.w.map D.int)]
def Pn.d (p : Pn) : D := .tup [.str p.n, .int p.s, .tup (p.r.map D.str)]
structure Kd.ok (m : Nat) (k : Kd) : Prop where
  n : nameOk k.n = true
  c : 1 ≤ k.c ∧ k.c ≤ 3
  l : k.w.length = m
  w : ∀ x ∈ k.w, 0 ≤ x ∧ x ≤ 6
structure Pn.ok (ks : List Str) (p : Pn) : Prop where
  n : nameOk p.n = true
  s : 1 ≤ p.s ∧ p.s ≤ 3
  r : p.r = ks.filter fun k => decide (k ∈ p.r)
structure Od where
  ms : List Str
  ks : List Kd
  ps : List Pn
structure Od.ok (o : Od) : Prop where
  m1 : 1 ≤ o.ms.length ∧ o.ms.length ≤ 2
  m2 : ∀ s ∈ o.ms, nameOk s = true
  m3 : o.ms.Nodup
  k1 : 1 ≤ o.ks.length ∧ o.ks.length ≤ 4
  k2 : ∀ k ∈ o.ks, Kd.ok o.ms.length k
  k3 : (o.ks.map Kd.n).Nodup
  p1 : 2 ≤ o.ps.length ∧ o.ps.length ≤ 3
  p2 : o.ms.length = 2 → o.ps.length = 2
  p3 : ∀ p ∈ o.ps, Pn.ok (o.ks.map Kd.n) p
  p4 : (o.ps.map Pn.n).Nodup
end Z
namespace Z
open PySem PySem.Spec PyProof.Rows L2 ZE
section
variable {K : PySem.W.Frag} {H : Hp}
theorem DT.tri {x : V} {a b c : D} (h : DT K H x (.tup [a, b, c])) : ∃ p u v w, x = .ref p ∧ SqT K H p [u, v, w] ∧ DT K H u a ∧ DT K H v b ∧ DT K H w c := by
  cases h with
  | tup hS hs =>
    cases hs with
    | cons h1 hs =>
      cases hs with
      | cons h2 hs =>
        cases hs with
        | cons h3 hs =>
          cases hs
          exact ⟨_, _, _, _, rfl, hS, h1, h2, h3⟩
theorem DT.kd {x : V} {k : Kd} (h : DT K H x k.d) : ∃ p b, x = .ref p ∧ SqT K H p [.str k.n, .int k.c, .ref b] ∧ SqT K H b (k.w.map V.int) := by
  obtain ⟨p, u, v, w, rfl, h1, h2, h3, h4⟩ := DT.tri (show DT K H x (.tup [.str k.n, .int k.c, .tup (k.w.map D.int)]) from h)
  cases h2
  cases h3
  cases h4 with
  | tup h5 h6 =>
    rw [h6.ints] at h5
    exact ⟨_, _, rfl, h1, h5⟩
theorem DT.pn {x : V} {p : Pn} (h : DT K H x p.d) : ∃ a b, x = .ref a ∧ SqT K H a [.str p.n, .int p.s, .ref b] ∧ SqT K H b (p.r.map V.str) := by
  obtain ⟨a, u, v, w, rfl, h1, h2, h3, h4⟩ := DT.tri (show DT K H x (.tup [.str p.n, .int p.s, .tup (p.r.map D.str)]) from h)
  cases h2
  cases h3
  cases h4 with
  | tup h5 h6 =>
    rw [h6.strs] at h5
    exact ⟨_, _, rfl, h1, h5⟩
theorem DTs.getM {α : Type} {f : α → D} {xs : List V} {ks : List α} (h : DTs K H xs (ks.map f)) {i : Nat} {x : V} (hx : xs[i]? = some x) : ∃ k, ks[i]? = some k ∧ DT K H x (f k) := by
  obtain ⟨d, h1, h2⟩ := h.get hx
  rw [List.getElem?_map] at h1
  cases e : ks[i]? with
  | none =>
    rw [e] at h1
    cases h1
  | some k =>
    rw [e] at h1
    cases h1
    exact ⟨k, rfl, h2⟩
theorem DTs.lenM {α : Type} {f : α → D} {xs : List V} {ks : List α} (h : DTs K H xs (ks.map f)) : xs.length = ks.length := by
  rw [h.len, List.length_map]
end
theorem not_mem_take {ss : List Str} (hd : ss.Nodup) {i : Nat} {s : Str} (h : ss[i]? = some s) : s ∉ ss.take i := by
  intro hm
  obtain ⟨j, hj, e5⟩ := List.getElem_of_mem hm
  rw [List.length_take] at hj
  rw [List.getElem_take] at e5
  have hi : i < ss.length := (List.getElem?_eq_some_iff.mp h).1
  have e6 : ss[i] = s := (List.getElem?_eq_some_iff.mp h).2
  have e7 := (List.getElem_inj hd).mp (e5.trans e6.symm)
  omega
end Z
namespace Z
open PySem PySem.Spec PyProof.Rows L2 ZE
/-! ### texts of orders -/
abbrev num (i : Int) : Str := ((toString i : String) : Str)
theorem num_len {i : Int} (h : 0 ≤ i ∧ i ≤ 6) : (num i).length = 1 := by
  have h7 : i = 0 ∨ i = 1 ∨ i = 2 ∨ i = 3 ∨ i = 4 ∨ i = 5 ∨ i = 6 := by omega
  rcases h7 with rfl | rfl | rfl | rfl | rfl | rfl | rfl <;> decide +kernel
theorem app_len (a b : Str) : (a ++ b).length = a.length + b.length := by
  show (a.cps ++ b.cps).size = a.cps.size + b.cps.size
  exact Array.size_append
theorem empty_app (a : Str) : Str.empty ++ a = a := by
  show (⟨#[] ++ a.cps⟩ : Str) = a
  rw [Array.empty_append]
theorem app_assoc (a b c : Str) : a ++ b ++ c = a ++ (b ++ c) := by
  show (⟨a.cps ++ b.cps ++ c.cps⟩ : Str) = ⟨a.cps ++ (b.cps ++ c.cps)⟩
  rw [Array.append_assoc]
theorem sjoin_len (a : Str) : ∀ ys : List Str, (Str.join a ys).length ≤ (ys.map (·.length)).sum + ys.length * a.length
  | [] => by show 0 ≤ _; exact Nat.zero_le _
  | [x] => by
    show x.length ≤ ([x.length]).sum + 1 * a.length
    simp
  | x :: y :: r => by
    have ih := sjoin_len a (y :: r)
    have e : Str.join a (x :: y :: r) = x ++ a ++ Str.join a (y :: r) := rfl
    rw [e, app_len, app_len]
    simp only [List.map_cons, List.sum_cons, List.length_cons, Nat.add_mul, Nat.one_mul] at ih ⊢
    omega
theorem join_len (a : Str) (ys : List Str) : (Txt.join a ys).length ≤ (ys.map (·.length)).sum + ys.length * a.length := by
  rw [TL.join_eq]
  exact sjoin_len a ys
theorem sum_le {l : List Nat} {b : Nat} (h : ∀ x ∈ l, x ≤ b) : l.sum ≤ l.length * b := by
  induction l with
  | nil => simp
  | cons x l ih =>
    have h1 := h x (List.mem_cons_self ..)
    have h2 := ih fun y hy => h y (List.mem_cons_of_mem _ hy)
    rw [List.sum_cons, List.length_cons, Nat.add_mul, Nat.one_mul]
    omega
theorem join_le {a : Str} {ys : List Str} {n b : Nat} (hn : ys.length ≤ n) (h : ∀ y ∈ ys, y.length ≤ b) : (ys.map (·.length)).sum + ys.length * a.length ≤ n * (b + a.length) := by
  have h1 : (ys.map (·.length)).sum ≤ ys.length * b := by
    have h2 := sum_le (l := ys.map (·.length)) (b := b) fun x hx => by
      obtain ⟨y, hy, rfl⟩ := List.mem_map.mp hx
      exact h y hy
    rwa [List.length_map] at h2
  calc (ys.map (·.length)).sum + ys.length * a.length ≤ ys.length * b + ys.length * a.length := Nat.add_le_add_right h1 _
    _ = ys.length * (b + a.length) := by rw [Nat.mul_add]
    _ ≤ n * (b + a.length) := Nat.mul_le_mul_right _ hn
def rowM (ms : List Str) : Str := ("measure " : Str) ++ Txt.join (", " : Str) ms
def rowK (k : Kd) : Str := Str.empty ++ ("kind " : Str) ++ k.n ++ (" " : Str) ++ num k.c ++ (": " : Str) ++ Txt.join (", " : Str) (k.w.map num)
def rowP (p : Pn) : Str := if p.r = [] then Str.empty ++ ("person " : Str) ++ p.n ++ (" " : Str) ++ num p.s else Str.empty ++ ("person " : Str) ++ p.n ++ (" " : Str) ++ num p.s ++ (" without " : Str) ++ Txt.join (", " : Str) p.r
def Od.text (o : Od) : Str := Txt.join ("\n" : Str) (rowM o.ms :: (o.ks.map rowK ++ o.ps.map rowP))
theorem l_kind : ("kind " : Str).length = 5 := by decide +kernel
theorem l_person : ("person " : Str).length = 7 := by decide +kernel
theorem l_measure : ("measure " : Str).length = 8 := by decide +kernel
theorem l_blank : (" " : Str).length = 1 := by decide +kernel
theorem l_colon : (": " : Str).length = 2 := by decide +kernel
theorem l_comma : (", " : Str).length = 2 := by decide +kernel
theorem l_without : (" without " : Str).length = 9 := by decide +kernel
theorem l_line : ("\n" : Str).length = 1 := by decide +kernel
theorem l_empty : Str.empty.length = 0 := rfl
section
variable {o : Od} (h : o.ok)
include h
theorem Od.ms8 : ∀ s ∈ o.ms, s.length ≤ 8 := fun s hs => (nameOk_len (h.m2 s hs)).2
theorem Od.r_mem {p : Pn} (hp : p ∈ o.ps) : ∀ s ∈ p.r, s ∈ o.ks.map Kd.n := fun s hs => by
  have e := (h.p3 p hp).r
  rw [e] at hs
  exact (List.mem_filter.mp hs).1
theorem Od.r_len {p : Pn} (hp : p ∈ o.ps) : p.r.length ≤ 4 := by
  rw [(h.p3 p hp).r]
  have h1 := List.length_filter_le (fun k => decide (k ∈ p.r)) (o.ks.map Kd.n)
  rw [List.length_map] at h1
  have h2 := h.k1.2
  omega
theorem Od.r_ok {p : Pn} (hp : p ∈ o.ps) : ∀ s ∈ p.r, nameOk s = true := fun s hs => by
  obtain ⟨k, hk, rfl⟩ := List.mem_map.mp (Od.r_mem h hp s hs)
  exact (h.k2 k hk).n
theorem Od.joinM : (o.ms.map (·.length)).sum + o.ms.length * (", " : Str).length ≤ 20 := by
  have h1 := join_le (a := (", " : Str)) h.m1.2 (Od.ms8 h)
  rw [l_comma] at h1 ⊢
  omega
theorem Od.joinW {k : Kd} (hk : k ∈ o.ks) : ((k.w.map num).map (·.length)).sum + (k.w.map num).length * (", " : Str).length ≤ 6 := by
  have h1 := join_le (a := (", " : Str)) (ys := k.w.map num) (n := 2) (b := 1) (by rw [List.length_map, (h.k2 k hk).l]; exact h.m1.2) fun y hy => by
    obtain ⟨x, hx, rfl⟩ := List.mem_map.mp hy
    rw [num_len ((h.k2 k hk).w x hx)]
    exact Nat.le_refl _
  rw [l_comma] at h1 ⊢
  omega
theorem Od.joinR {p : Pn} (hp : p ∈ o.ps) : (p.r.map (·.length)).sum + p.r.length * (", " : Str).length ≤ 40 := by
  have h1 := join_le (a := (", " : Str)) (ys := p.r) (n := 4) (b := 8) (Od.r_len h hp) fun y hy => (nameOk_len (Od.r_ok h hp y hy)).2
  rw [l_comma] at h1 ⊢
  omega
theorem Od.lM : (rowM o.ms).length ≤ 100 := by
  unfold rowM
  rw [app_len, l_measure]
  have := join_len (", " : Str) o.ms
  have := Od.joinM h
  omega
theorem Od.lK {k : Kd} (hk : k ∈ o.ks) : (rowK k).length ≤ 100 := by
  unfold rowK
  rw [app_len, app_len, app_len, app_len, app_len, app_len, l_empty, l_kind, l_blank, l_colon]
  have h1 := join_len (", " : Str) (k.w.map num)
  have h2 := Od.joinW h hk
  have h3 := (nameOk_len (h.k2 k hk).n).2
  have h4 := num_len (i := k.c) (by have := (h.k2 k hk).c; omega)
  omega
theorem Od.lP {p : Pn} (hp : p ∈ o.ps) : (rowP p).length ≤ 100 := by
  unfold rowP
  have h1 := join_len (", " : Str) p.r
  have h2 := Od.joinR h hp
  have h3 := (nameOk_len (h.p3 p hp).n).2
  have h4 := num_len (i := p.s) (by have := (h.p3 p hp).s; omega)
  split
  · rw [app_len, app_len, app_len, app_len, l_empty, l_person, l_blank]
    omega
  · rw [app_len, app_len, app_len, app_len, app_len, app_len, l_empty, l_person, l_blank, l_without]
    omega
theorem Od.joinT : ((rowM o.ms :: (o.ks.map rowK ++ o.ps.map rowP)).map (·.length)).sum + (rowM o.ms :: (o.ks.map rowK ++ o.ps.map rowP)).length * ("\n" : Str).length ≤ 1000 := by
  have h1 := join_le (a := ("\n" : Str)) (ys := rowM o.ms :: (o.ks.map rowK ++ o.ps.map rowP)) (n := 8) (b := 100) (by
    rw [List.length_cons, List.length_append, List.length_map, List.length_map]
    have := h.k1.2
    have := h.p1.2
    omega) fun y hy => by
      rcases List.mem_cons.mp hy with rfl | hy
      · exact Od.lM h
      · rcases List.mem_append.mp hy with hy | hy
        · obtain ⟨k, hk, rfl⟩ := List.mem_map.mp hy
          exact Od.lK h hk
        · obtain ⟨p, hp, rfl⟩ := List.mem_map.mp hy
          exact Od.lP h hp
  rw [l_line] at h1 ⊢
  omega
end
end Z
namespace Z
open PySem PySem.Spec PyProof.Rows L2 ZE
/-! ### what is due -/
def worth (ks : List Kd) (j : Nat) : Int := (ks.map fun k => k.c * k.w.getD j 0).sum
def shares (ps : List Pn) : Int := (ps.map Pn.s).sum
def gcdI (t b : Int) : Int := ((Nat.gcd t.natAbs b.natAbs : Nat) : Int)
def lowest (t b : Int) : Int × Int := (t / gcdI t b, b / gcdI t b)
def pairD (q : Int × Int) : D := .tup [.int q.1, .int q.2]
def dueP (o : Od) (n : Int) (p : Pn) : List (Int × Int) := (List.range o.ms.length).map fun j => lowest (n * worth o.ks j * p.s) (shares o.ps)
def dueD (o : Od) (n : Int) : D := .tup (o.ps.map fun p => .tup ((dueP o n p).map pairD))
theorem gcdI_pos {t b : Int} (h : 0 < b) : 0 < gcdI t b := by
  unfold gcdI
  have : 0 < Nat.gcd t.natAbs b.natAbs := Nat.gcd_pos_of_pos_right _ (by omega)
  omega
theorem gcdI_le {t b : Int} (h : 0 < b) : gcdI t b ≤ b := by
  unfold gcdI
  have : Nat.gcd t.natAbs b.natAbs ≤ b.natAbs := Nat.gcd_le_right _ (by omega)
  omega
section
variable {K : PySem.W.Frag} {H : Hp}
theorem DTs.of {ys : List V} {ds : List D} (hl : ys.length = ds.length) (h : ∀ (i : Nat) (y : V), ys[i]? = some y → ∃ d, ds[i]? = some d ∧ DT K H y d) : DTs K H ys ds := by
  induction ys generalizing ds with
  | nil =>
    cases ds with
    | nil => exact .nil
    | cons d ds => cases hl
  | cons y ys ih =>
    cases ds with
    | nil => cases hl
    | cons d ds =>
      obtain ⟨d', h1, h2⟩ := h 0 y rfl
      cases h1
      exact .cons h2 (ih (Nat.succ.inj hl) fun i z hz => h (i + 1) z hz)
theorem DT.pair {x : V} {q : Int × Int} (h : DT K H x (pairD q)) : ∃ a, x = .ref a ∧ SqT K H a [.int q.1, .int q.2] := by
  cases h with
  | tup hS hs =>
    cases hs with
    | cons h1 hs =>
      cases hs with
      | cons h2 hs =>
        cases hs
        cases h1
        cases h2
        exact ⟨_, rfl, hS⟩
theorem DT.ofPair {a : Addr} {q : Int × Int} (h : SqT K H a [.int q.1, .int q.2]) : DT K H (.ref a) (pairD q) := .tup h (.cons (.int _) (.cons (.int _) .nil))
end
theorem worth_bound {ks : List Kd} {m : Nat} (h : ∀ k ∈ ks, Kd.ok m k) (hl : ks.length ≤ 4) (j : Nat) : 0 ≤ worth ks j ∧ worth ks j ≤ 100 := by
  have key : ∀ l : List Kd, (∀ k ∈ l, Kd.ok m k) → 0 ≤ worth l j ∧ worth l j ≤ 18 * l.length := by
    intro l
    induction l with
    | nil =>
      intro _
      exact ⟨Int.le_refl 0, Int.le_refl 0⟩
    | cons k l ih =>
      intro hk
      have h1 := ih fun x hx => hk x (List.mem_cons_of_mem _ hx)
      have h2 := hk k (List.mem_cons_self ..)
      have e : worth (k :: l) j = k.c * k.w.getD j 0 + worth l j := by simp [worth]
      have h3 : 0 ≤ k.w.getD j 0 ∧ k.w.getD j 0 ≤ 6 := by
        rw [List.getD_eq_getElem?_getD]
        cases e4 : k.w[j]? with
        | none => exact ⟨by decide, by decide⟩
        | some x => exact h2.w x (List.mem_of_getElem? e4)
      have h5 : 0 ≤ k.c * k.w.getD j 0 ∧ k.c * k.w.getD j 0 ≤ 18 := by
        have hc := h2.c
        generalize k.w.getD j 0 = y at h3
        have hc3 : k.c = 1 ∨ k.c = 2 ∨ k.c = 3 := by omega
        rcases hc3 with e | e | e <;> rw [e] <;> omega
      rw [e, List.length_cons]
      omega
  have := key ks h
  omega
theorem shares_bound {ps : List Pn} (h : ∀ p ∈ ps, 1 ≤ p.s ∧ p.s ≤ 3) (hl : 1 ≤ ps.length ∧ ps.length ≤ 3) : 1 ≤ shares ps ∧ shares ps ≤ 9 := by
  have key : ∀ l : List Pn, (∀ p ∈ l, 1 ≤ p.s ∧ p.s ≤ 3) → (l.length : Int) ≤ shares l ∧ shares l ≤ 3 * l.length := by
    intro l
    induction l with
    | nil =>
      intro _
      exact ⟨Int.le_refl 0, Int.le_refl 0⟩
    | cons p l ih =>
      intro hk
      have h1 := ih fun x hx => hk x (List.mem_cons_of_mem _ hx)
      have h2 := hk p (List.mem_cons_self ..)
      have e : shares (p :: l) = p.s + shares l := by simp [shares]
      rw [e, List.length_cons]
      omega
  have := key ps h
  omega
end Z
namespace Z
open PySem PySem.Spec PyProof.Rows L2 ZE
theorem pe_fldK {X : Cx} {K : PySem.W.Frag} {e : Expr} {f : Str} {ta : TE} {pos : Pos} (hK : X.K = K) (he : PE X e ta) (hb : attributeBase e f X.env (eval e X.env) = eval e X.env) : PE X (.Attribute e f pos) (tFld K ta f) := by
  subst hK
  exact pe_fld he hb
end Z
namespace Z
open PySem PySem.Spec PyProof.Rows L2 ZE
section
variable {K : PySem.W.Frag} {g : TG} {te : TE} {ta : TA} {vs : List Nat} {σ : L2.St} {H : Hp} {Q : VK}
theorem lcR (n : Nat) (ht : ∀ R : List V → Hp → Prop, R [.int (n : Int)] H → ta σ H R) (hn : n ≤ 90000) (m : Addr → Prop) (I : Hp → Prop) (R : Nat → V → Hp → Prop)
    (hm : ∀ b, m b → H b ≠ none) (hI : I H) (hIu : ∀ H' D o, H D = none → Gr m H H' → I H' → I (upd H' D o)) (hR : ∀ i y H' H'', R i y H' → Gr any H' H'' → R i y H'')
    (hs : ∀ (i : Nat) (H' : Hp) (Q' : VK), i < n → Gr m H H' → I H' → (∀ y H3, Gr m H' H3 → I H3 → R i y H3 → Q' y H3) → g (.int (i : Int)) (wipe σ vs) H' fun σ2 H2 => wipe σ2 vs = wipe σ vs ∧ te σ2 H2 Q')
    (k : ∀ D ys H', H D = none → Gr m H H' → I H' → H' D = some (.lst ys) → ys.length = n → (∀ i y, ys[i]? = some y → R i y H') → Q (.ref D) H') : tLc (iRng1 ta) g tYes te vs σ H Q :=
  ht _ ⟨(n : Int), rfl, by omega, by omega, lc_all (H := H) (walk_range (lo := 0) (n := n)) m I R hn (fun _ _ => trivial) hm hI hIu hR (fun i x H' H'' Q' hi g1 g2 ⟨e, hx⟩ q => by
    subst e
    have e0 : (0 : Int) + (i : Int) = (i : Int) := Int.zero_add _
    rw [hx]
    show g (.int (0 + (i : Int))) _ _ _
    rw [e0]
    exact hs i _ Q' hi g1 g2 q) k⟩
theorem lcRf (n : Nat) (ht : ∀ R : List V → Hp → Prop, R [.int (n : Int)] H → ta σ H R) (hn : n ≤ 90000) (zs : List V) (hz : zs.length = n)
    (hs : ∀ (i : Nat) (z : V) (H' : Hp) (Q' : VK), zs[i]? = some z → Ex H H' → (∀ H3, Ex H' H3 → Q' z H3) → g (.int (i : Int)) (wipe σ vs) H' fun σ2 H2 => wipe σ2 vs = wipe σ vs ∧ te σ2 H2 Q')
    (k : ∀ D H', H D = none → Ex H H' → H' D = some (.lst zs) → Q (.ref D) H') : tLc (iRng1 ta) g tYes te vs σ H Q := by
  refine lcR n ht hn nob (fun _ => True) (fun i y _ => zs[i]? = some y) (fun _ q => q.elim) trivial (fun _ _ _ _ _ _ => trivial) (fun _ _ _ _ q _ => q) (fun i H' Q' hi e _ q => ?_) fun D ys H' hD e _ h1 h2 h3 => ?_
  · exact hs i zs[i] H' Q' (List.getElem?_eq_getElem (by omega)) e fun H3 e3 => q _ H3 e3 trivial (List.getElem?_eq_getElem (by omega))
  · rw [ext_of (h2.trans hz.symm) h3] at h1
    exact k D H' hD e h1
end
end Z

/-! v in o, o == p, o != p: o and p instances of one own class with __contains__ and __eq__. -/
namespace Z
open PySem PySem.Spec PyProof.Rows L2
section
variable {X : Cx} {C : Addr} {k : Nat} {sp : Sp}
theorem run_own {f : Addr} {fd : FuncData} {ps : List Str} {pins : List (Addr × Obj)} {s : Shared} {σ : L2.St} {H : Hp} {us : List Value} {vs : List V} {Q : VK} (F : FnOk X.prog X.w X.K X.mg X.base (L2.CX X.prog X.w) k f fd ps sp) (hb : Binds X.K fd ps []) (hr : Room k X.A)
    (I : L2.Inv X pins σ H s) (r : Vals vs us) (hl : us.length = ps.length) (q : sp vs H Q E0) : wpAny (model X.prog X.w) X.A (call (.ref f) us) (EP X pins σ Q) X.xe s := by
  have hb2 := hb s us I.kIn (by rw [List.append_nil]; exact hl)
  rw [List.append_nil] at hb2
  refine wpAny_call (codeAny_mono (F.run X.A X.stack s H ⟨us, []⟩ us vs _ E0 hr I.env0 hb2 r q) fun r s' hq => ?_)
  cases r with
  | error er =>
    obtain ⟨_, _, _, _, _, _, _, _, _, _, _, _, z⟩ := (show L2.CX X.prog X.w X.stack H s E0 er s' from hq)
    exact z.elim
  | ok fl =>
    cases fl with
    | ret u => exact I.after hq
    | next => exact False.elim hq
    | brk => exact False.elim hq
    | cont => exact False.elim hq
theorem run_own1 {E : Value → Shared → Prop} {f : Addr} {fd : FuncData} {ps : List Str} {pins : List (Addr × Obj)} {s : Shared} {σ : L2.St} {H : Hp} {us : List Value} {vs : List V} {Q : VK} (F : FnOk X.prog X.w X.K X.mg X.base (L2.CX X.prog X.w) k f fd ps sp) (hb : Binds X.K fd ps []) (hr : Room (k + 1) X.A)
    (I : L2.Inv X pins σ H s) (r : Vals vs us) (hl : us.length = ps.length) (q : sp vs H Q E0) : wpAny (model X.prog X.w) X.A.in1 (call (.ref f) us) (EP X pins σ Q) E s := by
  have hb2 := hb s us I.kIn (by rw [List.append_nil]; exact hl)
  rw [List.append_nil] at hb2
  refine wpAny_call (codeAny_mono (F.run X.A.in1 X.stack s H ⟨us, []⟩ us vs _ E0 hr.in1 I.env0.in1 hb2 r q) fun r s' hq => ?_)
  cases r with
  | error er =>
    obtain ⟨_, _, _, _, _, _, _, _, _, _, _, _, z⟩ := (show L2.CX X.prog X.w X.stack H s E0 er s' from hq)
    exact z.elim
  | ok fl =>
    cases fl with
    | ret u => exact I.after hq
    | next => exact False.elim hq
    | brk => exact False.elim hq
    | cont => exact False.elim hq
def rInO (C : Addr) (sp : Sp) (neg : Bool) : R2 := fun x y H Q => ∃ a dx fs, y = .ref a ∧ H a = some (.ins C dx fs) ∧ sp [.ref a, x] H (fun v H' => ∃ b, v = .bl b ∧ Q (.bl (b != neg)) H') E0
theorem op_inO (c : Mtd X.prog X.w X.K X.mg X.base k C "__contains__" ["self", "value"] sp) {j : Nat} (hr : Room j X.A) (hj : k ≤ j) : OpR X (compareOp .In) (rInO C sp false) := by
  intro pins s σ H x y v u Q I rx ry h
  obtain ⟨a, dx, fs, rfl, ea, q⟩ := h
  obtain ⟨f, fd, hc, hm, hb, F⟩ := c.ex
  cases ry
  obtain ⟨mA, O, _⟩ := ins_get I.hok ea
  obtain ⟨od, J, _⟩ := O.look
  obtain ⟨m, fr⟩ := I.fr
  refine PySem.W.in_K fr I.ok.mod.kin J hm.at_ hm.fn ?_
  refine wpAny_mono (run_own (vs := [.ref a, x]) F hb (hr.mono hj) I (.cons rfl (.cons rx .nil)) rfl q) (fun w s' hw => ?_) fun _ _ z => z
  obtain ⟨v2, H', I2, r2, b, rfl, q2⟩ := hw
  cases r2
  refine wpAny_truthy_bool ?_
  refine ⟨.bl b, H', I2, rfl, ?_⟩
  have : (b != false) = b := by cases b <;> rfl
  rwa [this] at q2
theorem op_notInO (c : Mtd X.prog X.w X.K X.mg X.base k C "__contains__" ["self", "value"] sp) {j : Nat} (hr : Room j X.A) (hj : k ≤ j) : OpR X (compareOp .NotIn) (rInO C sp true) := by
  intro pins s σ H x y v u Q I rx ry h
  obtain ⟨a, dx, fs, rfl, ea, q⟩ := h
  obtain ⟨f, fd, hc, hm, hb, F⟩ := c.ex
  cases ry
  obtain ⟨mA, O, _⟩ := ins_get I.hok ea
  obtain ⟨od, J, _⟩ := O.look
  obtain ⟨m, fr⟩ := I.fr
  refine PySem.W.notIn_K fr I.ok.mod.kin J hm.at_ hm.fn ?_
  refine wpAny_mono (run_own (vs := [.ref a, x]) F hb (hr.mono hj) I (.cons rfl (.cons rx .nil)) rfl q) (fun w s' hw => ?_) fun _ _ z => z
  obtain ⟨v2, H', I2, r2, b, rfl, q2⟩ := hw
  cases r2
  refine wpAny_truthy_bool ?_
  refine ⟨.bl (!b), H', I2, rfl, ?_⟩
  have : (b != true) = !b := by cases b <;> rfl
  rwa [this] at q2
def rEqO (C : Addr) (sp : Sp) (neg : Bool) : R2 := fun x y H Q => ∃ a dx fs b dy gs, x = .ref a ∧ y = .ref b ∧ H a = some (.ins C dx fs) ∧ H b = some (.ins C dy gs) ∧ sp [.ref a, .ref b] H (fun v H' => ∃ c, v = .bl c ∧ Q (.bl (c != neg)) H') E0
theorem op_eqO (c : Mtd X.prog X.w X.K X.mg X.base k C "__eq__" ["self", "other"] sp) {j : Nat} (hr : Room j X.A) (hj : k ≤ j) : OpR X (compareOp .Eq) (rEqO C sp false) := by
  intro pins s σ H x y v u Q I rx ry h
  obtain ⟨a, dx, fs, b, dy, gs, rfl, rfl, ea, eb, q⟩ := h
  obtain ⟨f, fd, hc, hm, hb, F⟩ := c.ex
  cases rx
  cases ry
  obtain ⟨mA, O, _⟩ := ins_get I.hok ea
  obtain ⟨od, J, _⟩ := O.look
  obtain ⟨mB, O2, _⟩ := ins_get I.hok eb
  obtain ⟨od2, J2, _⟩ := O2.look
  obtain ⟨m, fr⟩ := I.fr
  show wpAny _ _ (richCompare .Eq (.ref a) (.ref b)) _ _ s
  refine PySem.W.cmp_K hr.units0 fr I.ok.mod.kin J J2.type (by unfold PySem.W.notFirst; simp) hm.at_ hm.fn ?_
  refine wpAny_mono (run_own (vs := [.ref a, .ref b]) F hb (hr.mono hj) I (.cons rfl (.cons rfl .nil)) rfl q) (fun w s' hw => ?_) fun _ _ z => z
  obtain ⟨v2, H', I2, r2, c, rfl, q2⟩ := hw
  cases r2
  refine ⟨.bl c, H', I2, rfl, ?_⟩
  have : (c != false) = c := by cases c <;> rfl
  rwa [this] at q2
/-- the class takes != from object -/
structure NeC (K : PySem.W.Frag) (C : Addr) : Prop where
  ne : PySem.W.findIn K (.ref C) "__ne__" = some (some (.builtin "object.__ne__"))
  ob : PySem.W.mroIn K C (.type "object") = some true
theorem ifBound_objNe {M : Model} {A : Around} {E : Value → Shared → Prop} {s : Shared} {K : PySem.W.Frag} {x C : Addr} {ox : Obj} {od : Option Obj} {args : List Value} {Q : Option Value → Shared → Prop} (X : K.In s.heap) (J : PySem.W.InstAt s.heap x ox C od) (n : NeC K C)
    (h : wpAny M A (call (.builtin "object.__ne__") (.ref x :: args)) (fun v => Q (some v)) E s) : wpAny M A (callSpecialIfBound? (.ref x) "__ne__" args) Q E s := by
  unfold callSpecialIfBound?
  refine wpAny_holding (wpAny_bind ?_)
  unfold bindSpecialIfBound?
  refine wpAny_bind ?_
  unfold specialOf
  refine wpAny_bind (J.type.here ?_)
  refine (PySem.W.looks_findIn X n.ne).here ?_
  refine wpAny_bind (wpAny_askSetting (wpAny_ite ?_))
  have hbnd := (CmpFacts.ne PySem.F.cmp_object).bind (.ref x)
  split
  · refine wpAny_bind ?_
    rw [hbnd]
    refine wpAny_pure (wpAny_pure ?_)
    refine wpAny_bind (wpAny_mono h (fun v s' q => wpAny_pure q) fun _ _ z => z)
  · refine wpAny_tryCatch (wpAny_bind ?_)
    rw [hbnd]
    refine wpAny_pure (wpAny_pure ?_)
    refine wpAny_bind (wpAny_mono h (fun v s' q => wpAny_pure q) fun _ _ z => z)
theorem op_neO (c : Mtd X.prog X.w X.K X.mg X.base k C "__eq__" ["self", "other"] sp) (n : NeC X.K C) {j : Nat} (hr : Room j X.A) (hj : k + 1 ≤ j) : OpR X (compareOp .NotEq) (rEqO C sp true) := by
  intro pins s σ H x y v u Q I rx ry h
  obtain ⟨a, dx, fs, b, dy, gs, rfl, rfl, ea, eb, q⟩ := h
  obtain ⟨f, fd, hc, hm, hb, F⟩ := c.ex
  cases rx
  cases ry
  obtain ⟨mA, O, _⟩ := ins_get I.hok ea
  obtain ⟨od, J, _⟩ := O.look
  obtain ⟨mB, O2, _⟩ := ins_get I.hok eb
  obtain ⟨od2, J2, _⟩ := O2.look
  show wpAny _ _ (richCompare .NotEq (.ref a) (.ref b)) _ _ s
  rw [richCompare.eq_1]
  refine wpAny_holding (wpAny_bind (wpAny_cRoomFor hr.units0 ?_))
  refine wpAny_bind (J.type.here ?_)
  refine wpAny_bind (J2.type.here ?_)
  rw [if_neg (by simp)]
  refine wpAny_bind (wpAny_pure ?_)
  show wpAny _ _ (tryCompare (.ref a) "__ne__" (.ref b) >>= _) _ _ s
  refine wpAny_bind ?_
  rw [tryCompare.eq_1]
  refine wpAny_bind (ifBound_objNe I.kIn J n ?_)
  refine wpAny_call (codeAny_call_builtin (CmpFacts.ne PySem.F.cmp_object).plain PySem.F.cmpEntry_ne ?_)
  refine PySem.W.check_slot PySem.F.cmpKind_ne PySem.F.cmpSplit_ne ((J.type).andThen (PySem.W.looks_mroIn I.kIn n.ob)) (PySem.F.cmpArgs_ne _ _) ?_
  unfold Builtin.«object.__ne__»
  refine wpAny_bind (wpAny_of_eq (a := (.ref a, [.ref b])) (by rfl) ?_)
  have hr1 : Room (k + 1) X.A := hr.mono hj
  refine wpAny_bind (wpAny_cRoomFor hr1.in1.units0 ?_)
  refine wpAny_bind (PySem.W.ifBound_K I.kIn J hm.at_ hm.fn ?_)
  refine wpAny_mono (run_own1 (vs := [.ref a, .ref b]) F hb hr1 I (.cons rfl (.cons rfl .nil)) rfl q) (fun w s' hw => ?_) fun _ _ z => z
  obtain ⟨v2, H', I2, r2, c, rfl, q2⟩ := hw
  cases r2
  refine wpAny_bind (wpAny_truthy_bool ?_)
  refine wpAny_pure ?_
  refine wpAny_pure ?_
  refine wpAny_pure ?_
  refine ⟨.bl (!c), H', I2, rfl, ?_⟩
  have : (c != true) = !c := by cases c <;> rfl
  rwa [this] at q2
end
end Z

/-! min(l, default=d), l a list of whole numbers. -/
namespace Z
open PySem PySem.Spec PyProof.Rows L2
section
variable {prog : Program} {w : World} {A : Around} {R : Result → Shared → Prop} {I : Addr} {fp wr : List Addr} {n : Nat} {P : Nat → Value → Prop} {St : Nat → Heap → Prop}
theorem minD_loop (W : Walks prog w A.in1 I fp wr n P St) (bt : Nat → Nat → Bool) (C : CmpOf prog w A.in1 CmpOp.Lt P bt) (S : Addr) (hS : ¬ S ∈ fp) (d : Value) :
    ∀ (k j : Nat) (s : Shared) (vb : Value) (c : Nat), n - (j + 1) = k → j + 1 ≤ n → St (j + 1) s.heap → P (argBest bt j) vb → s.heap.get? S = some { cls := .type "list", data := .seq #[vb, vb] c } →
      (∀ (v : Value) (h' : Heap) (tk : Nat), P (argBest bt (n - 1)) v → (∀ (b : Addr) (o : Obj), ¬ b ∈ wr → b ≠ S → s.heap.get? b = some o → h'.get? b = some o) → R (.ok (.ret v)) { s with heap := h', toks := tk }) →
      codeAny (model prog w) A (.builtin "min.loop" { pos := [.ref I, .none, .ref S], kw := [("default", d)] }) R s := by
  intro k
  have hSw : ¬ S ∈ wr := fun q => hS (W.sub S q)
  induction k with
  | zero =>
    intro j s vb c hk hj hst hp hs hR
    have hn : n = j + 1 := by omega
    refine codeAny_builtin F.entry_min_loop ?_
    rw [Around.under_plainId F.plain_min_loop]
    refine wpAny_bind (wpAny_seqItems hs rfl ?_)
    refine wpAny_bind (wpAny_tryCatch ?_)
    subst hn
    refine W.done s _ _ hst fun h' tk hk' => ?_
    have hs' := hk' S _ hSw hs
    refine wpAny_bind (wpAny_updateSeq hs' rfl ?_)
    refine wpAny_bind (wpAny_letGo ?_)
    refine wpAny_pure ?_
    exact hR vb _ tk hp fun b o hb hbS q => by
      exact (Heap.get?_update_other _ _ (Ne.symm hbS)).trans (hk' b o hb q)
  | succ k ih =>
    intro j s vb c hk hj hst hp hs hR
    refine codeAny_builtin F.entry_min_loop ?_
    rw [Around.under_plainId F.plain_min_loop]
    refine wpAny_bind (wpAny_seqItems hs rfl ?_)
    refine wpAny_bind (wpAny_tryCatch ?_)
    refine W.item (j + 1) s _ _ (by omega) hst fun v h' tk hv hst' hk' => ?_
    have hs' := hk' S _ hSw hs
    refine wpAny_bind (wpAny_pure ?_)
    refine wpAny_bind (wpAny_tryCatch ?_)
    refine wpAny_holding (wpAny_bind (C (j + 1) (argBest bt j) v vb _ _ _ hv hp ?_))
    refine wpAny_bind (wpAny_holding (wpAny_truthy_bool ?_))
    refine wpAny_bind (wpAny_letGo (wpAny_pure ?_))
    have en : argBest bt (j + 1) = if bt (j + 1) (argBest bt j) = true then j + 1 else argBest bt j := argBest.eq_2 bt j
    cases hb : bt (j + 1) (argBest bt j) with
    | true =>
      rw [if_pos rfl]
      rw [hb, if_pos rfl] at en
      refine wpAny_bind (wpAny_updateSeq hs' rfl ?_)
      refine wpAny_bind (wpAny_letGo ?_)
      refine wpAny_pure ⟨plainId_quiet F.plain_min_loop _, ?_⟩
      refine ih (j + 1) _ v c (by omega) (by omega) (W.frame _ _ _ hst' fun b hb o q => ?_) (by rw [en]; exact hv) ?_ fun u h2 tk2 hu hk2 => ?_
      · refine (Heap.get?_update_other _ _ (fun e => hS (by rw [e]; exact hb))).trans q
      · exact Heap.get?_update_self _ hs' rfl
      · exact hR u h2 tk2 hu fun b o hb1 hb2 q => hk2 b o hb1 hb2 (by
          exact (Heap.get?_update_other _ _ (Ne.symm hb2)).trans (hk' b o hb1 q))
    | false =>
      rw [if_neg (by decide)]
      rw [hb, if_neg (by decide)] at en
      refine wpAny_bind (wpAny_letGo ?_)
      refine wpAny_pure ⟨plainId_quiet F.plain_min_loop _, ?_⟩
      refine ih (j + 1) _ vb c (by omega) (by omega) hst' (by rw [en]; exact hp) hs' fun u h2 tk2 hu hk2 => ?_
      exact hR u h2 tk2 hu fun b o hb1 hb2 q => hk2 b o hb1 hb2 (hk' b o hb1 q)
theorem minD_nil (W : Walks prog w A.in1 I fp wr 0 P St) (S : Addr) (hS : ¬ S ∈ fp) (d : Value) {s : Shared} {c : Nat} (hst : St 0 s.heap) (hs : s.heap.get? S = some { cls := .type "list", data := .seq #[] c })
    (hR : ∀ (h' : Heap) (tk : Nat), (∀ (b : Addr) (o : Obj), ¬ b ∈ wr → s.heap.get? b = some o → h'.get? b = some o) → R (.ok (.ret d)) { s with heap := h', toks := tk }) :
    codeAny (model prog w) A (.builtin "min.loop" { pos := [.ref I, .none, .ref S], kw := [("default", d)] }) R s := by
  refine codeAny_builtin F.entry_min_loop ?_
  rw [Around.under_plainId F.plain_min_loop]
  refine wpAny_bind (wpAny_seqItems hs rfl ?_)
  refine wpAny_bind (wpAny_tryCatch ?_)
  refine W.done s _ _ hst fun h' tk hk' => ?_
  refine wpAny_bind (wpAny_rule ?_)
  exact wpAny_pure (hR h' tk hk')
theorem minD_first (W : Walks prog w A.in1 I fp wr n P St) (bt : Nat → Nat → Bool) (C : CmpOf prog w A.in1 CmpOp.Lt P bt) (S : Addr) (hS : ¬ S ∈ fp) (d : Value) (hn : 0 < n) {s : Shared} {c : Nat} (hst : St 0 s.heap) (hs : s.heap.get? S = some { cls := .type "list", data := .seq #[] c })
    (hR : ∀ (v : Value) (h' : Heap) (tk : Nat), P (argBest bt (n - 1)) v → (∀ (b : Addr) (o : Obj), ¬ b ∈ wr → b ≠ S → s.heap.get? b = some o → h'.get? b = some o) → R (.ok (.ret v)) { s with heap := h', toks := tk }) :
    codeAny (model prog w) A (.builtin "min.loop" { pos := [.ref I, .none, .ref S], kw := [("default", d)] }) R s := by
  have hSw : ¬ S ∈ wr := fun q => hS (W.sub S q)
  refine codeAny_builtin F.entry_min_loop ?_
  rw [Around.under_plainId F.plain_min_loop]
  refine wpAny_bind (wpAny_seqItems hs rfl ?_)
  refine wpAny_bind (wpAny_tryCatch ?_)
  refine W.item 0 s _ _ hn hst fun v h' tk hv hst' hk' => ?_
  have hs' := hk' S _ hSw hs
  refine wpAny_bind (wpAny_pure ?_)
  refine wpAny_bind (wpAny_updateSeq hs' rfl ?_)
  refine wpAny_pure ⟨plainId_quiet F.plain_min_loop _, ?_⟩
  refine minD_loop W bt C S hS d _ 0 _ v _ rfl (by omega) (W.frame _ _ _ hst' fun b hb o q => (Heap.get?_update_other _ _ (fun e => hS (by rw [e]; exact hb))).trans q) hv (by exact Heap.get?_update_self (Obj.mapSeq fun _ => #[v, v]) hs' rfl) fun u h2 tk2 hu hk2 => ?_
  exact hR u h2 tk2 hu fun b o hb1 hb2 q => hk2 b o hb1 hb2 ((Heap.get?_update_other _ _ (Ne.symm hb2)).trans (hk' b o hb1 q))
end
section
variable {prog : Program} {w : World} {A : Around} {E : Value → Shared → Prop} {s : Shared} {l : Addr}
theorem args_minD (a v : Value) : argsOk "min" { pos := [a], kw := [(Str.ofString "default", v)] } := kmk_min_key a v
theorem minD_call {xs : Array (Int × Tok)} {d : Value} {Q : Value → Shared → Prop} (hh : A.handled = none) (hl : s.heap.IsList l (intItems xs))
    (h0 : xs.size = 0 → ∀ (h' : Heap) (tk : Nat), (∀ (b : Addr) (o : Obj), s.heap.get? b = some o → h'.get? b = some o) → Q d { s with heap := h', toks := tk })
    (h1 : 0 < xs.size → ∀ (v : Value) (h' : Heap) (tk : Nat), (intItems xs)[argBest (fun i j => decide (numAt xs i < numAt xs j)) (xs.size - 1)]? = some v → (∀ (b : Addr) (o : Obj), s.heap.get? b = some o → h'.get? b = some o) → Q v { s with heap := h', toks := tk }) :
    wpAny (model prog w) A (call (.builtin "min") [.ref l] [("default", d)]) Q E s := by
  refine kmk_tree F.kind_min F.plain_min F.entry_min (args_minD _ _) ?_
  refine wpAny_bind (wpAny_of_eq (a := [none, some d]) (by rfl) ?_)
  refine wpAny_bind (wpAny_pure ?_)
  refine wpAny_bind (iter_intList hl fun s2 e2 ⟨i1, i2⟩ _ hne => ?_)
  refine wpAny_bind (wpAny_newList ?_)
  refine wpAny_pure ⟨plainId_quiet F.plain_min_loop _, ?_⟩
  have sz : s2.heap.objs.size = s.heap.objs.size + 1 := by rw [e2]; exact Heap.size_push ..
  have W := Walks.list (prog := prog) (w := w) (A := A.in1) (by rw [Around.in1_handled]; exact hh) s.heap.objs.size l hne (intItems xs)
  have hlt : l < s.heap.objs.size := by
    obtain ⟨o, ho, _⟩ := hl
    exact Heap.lt_size ho
  have hSf : ¬ s2.heap.objs.size ∈ [s.heap.objs.size, l] := by
    intro q
    have q : s2.heap.objs.size = s.heap.objs.size ∨ s2.heap.objs.size = l := by simpa using q
    rcases q with q | q
    · omega
    · rw [← q] at hlt
      exact absurd (show s2.heap.objs.size < s.heap.objs.size from hlt) (by omega)
  have keep : ∀ (b : Addr) (o : Obj), s2.heap.get? b = some o → (s2.heap.push { cls := .type "list", data := .seq #[] }).get? b = some o := fun b o q => Heap.get?_push_of_some _ q
  have st0 : (s2.heap.push { cls := .type "list", data := .seq #[] }).IsListIter s.heap.objs.size l (0 : Nat) ∧ (s2.heap.push { cls := .type "list", data := .seq #[] }).IsList l (intItems xs) :=
    W.frame 0 s2.heap _ ⟨i1, i2⟩ fun b _ o q => keep b o q
  have hS0 : (s2.heap.push { cls := .type "list", data := .seq #[] }).get? s2.heap.objs.size = some { cls := .type "list", data := .seq #[] } := Heap.get?_push_size _ rfl
  have old : ∀ (b : Addr) (o : Obj), s.heap.get? b = some o → s2.heap.get? b = some o ∧ b ≠ s.heap.objs.size ∧ b ≠ s2.heap.objs.size := fun b o q => by
    have := Heap.lt_size q
    refine ⟨by rw [e2]; exact Heap.get?_push_of_some _ q, fun e => absurd this (by rw [e]; exact Nat.lt_irrefl _), fun e => absurd this (by rw [e, sz]; exact Nat.not_lt.mpr (Nat.le_succ _))⟩
  have hz : (intItems xs).size = xs.size := by simp [intItems]
  by_cases hx : xs.size = 0
  · have W0 : Walks prog w A.in1 s.heap.objs.size [s.heap.objs.size, l] [s.heap.objs.size] 0 (fun i v => (intItems xs)[i]? = some v) (fun i h => h.IsListIter s.heap.objs.size l i ∧ h.IsList l (intItems xs)) := by
      rw [hz, hx] at W
      exact W
    refine minD_nil W0 s2.heap.objs.size hSf d st0 hS0 fun h' tk hk => ?_
    have hs : ({ s2 with heap := h', toks := tk } : Shared) = { s with heap := h', toks := tk } := by rw [e2]
    show Q d _
    rw [show _ = ({ s2 with heap := h', toks := tk } : Shared) from rfl, hs]
    refine h0 hx h' tk fun b o q => ?_
    obtain ⟨o1, o2, o3⟩ := old b o q
    exact hk b o (by simpa using o2) (keep b o o1)
  · refine minD_first W (fun i j => decide (numAt xs i < numAt xs j)) (CmpOf.ints_lt (numAt xs) fun i v q => intItems_at q) s2.heap.objs.size hSf d (by rw [hz]; omega) st0 hS0 fun v h' tk hv hk => ?_
    have hs : ({ s2 with heap := h', toks := tk } : Shared) = { s with heap := h', toks := tk } := by rw [e2]
    show Q v _
    rw [show _ = ({ s2 with heap := h', toks := tk } : Shared) from rfl, hs]
    rw [hz] at hv
    refine h1 (by omega) v h' tk hv fun b o q => ?_
    obtain ⟨o1, o2, o3⟩ := old b o q
    exact hk b o (by simpa using o2) o3 (keep b o o1)
end
section
variable {X : Cx}
def rMinD (K : PySem.W.Frag) : List V → List V → Hp → VK → Prop := fun vs zs H Q => ∃ a ns d, vs = [.ref a] ∧ zs = [d] ∧ SqL K H a (ns.map V.int) ∧ (ns = [] → Q d H) ∧ ∀ m, m ∈ ns → (∀ y, y ∈ ns → m ≤ y) → Q (.int m) H
theorem cr_minD (hc : X.calm = true) : CallRK X (.builtin "min") ["default"] (rMinD X.K) := by
  intro pins s σ H xs zs us ws Q I r rz h
  obtain ⟨a, ns, d, rfl, rfl, hs, h0, h1⟩ := h
  cases r with
  | cons r rr =>
    cases rr
    cases r
    cases rz with
    | cons rd rr =>
      cases rr
      rename_i u
      obtain ⟨its, v1, v2, v3⟩ := I.list hs
      have hi := v1.ints
      have hl := v2.isList
      obtain ⟨ws, hws⟩ := AllInts.items hi.allInts
      have en : ws.toList.map (·.1) = ns := by
        have e := nums_intItems ws
        rw [← hws] at e
        rw [← e]
        exact hi.numsOf
      rw [hws] at hl
      have hsz : ws.size = ns.length := by
        rw [← en, List.length_map, Array.length_toList]
      refine minD_call (I.ok.hd hc) hl (fun hx h' tk hk => ?_) fun hx v h' tk hv hk => ?_
      · exact ⟨d, H, I.kept hk, rd, h0 (List.length_eq_zero_iff.mp (by omega))⟩
      · obtain ⟨t, rfl⟩ := intItems_at hv
        obtain ⟨b1, b2⟩ := argBest_lt (numAt ws) (ws.size - 1)
        generalize hj : argBest (fun i j => decide (numAt ws i < numAt ws j)) (ws.size - 1) = j at b1 b2 hv
        refine ⟨.int (numAt ws j), H, I.kept hk, ⟨t, rfl⟩, h1 _ ?_ fun y hy => ?_⟩
        · rw [numAt_eq, en]
          exact getD_mem (by omega)
        · obtain ⟨i, hi1, rfl⟩ := mem_getD hy
          have := b2 i (by omega)
          rwa [numAt_eq ws i, en] at this
end
end Z

/-! xs[f::d], xs a list. -/
namespace Z
open PySem PySem.Spec PyProof.Rows L2 HT
def stepN (n f d : Nat) : List Nat := (List.range ((n - f + d - 1) / d)).map fun k => f + d * k
def stepV {α : Type} (xs : List α) (f d : Nat) : List α := (stepN xs.length f d).filterMap fun i => xs[i]?
theorem step_pick (its : List Value) {f d : Nat} (hf : f ≤ its.length) (hd : 0 < d) : slicePick its.toArray (some (f : Int)) none (some (d : Int)) = (stepV its f d).toArray := by
  unfold slicePick stepV
  congr 1
  have e1 : sliceBounds (some (f : Int)) none (some (d : Int)) its.toArray.size = ((f : Int), (its.length : Int), (d : Int)) := by
    unfold sliceBounds
    simp only [Option.getD_some, List.size_toArray]
    rw [if_neg (show ¬ ((f : Int) < 0) by omega), if_pos (show (d : Int) > 0 by omega), if_pos (show (d : Int) > 0 by omega)]
    congr 1
    omega
  rw [e1]
  have e2 : sliceRange (f : Int) (its.length : Int) (d : Int) = stepN its.length f d := by
    unfold sliceRange stepN
    simp only []
    rw [if_pos (show (d : Int) > 0 by omega)]
    have e3 : ((if (f : Int) < (its.length : Int) then ((its.length : Int) - f + d - 1) / d else 0) : Int).toNat = (its.length - f + d - 1) / d := by
      split
      · have e : ((its.length : Int) - f + d - 1) = ((its.length - f + d - 1 : Nat) : Int) := by omega
        rw [e, ← Int.natCast_ediv, Int.toNat_natCast]
      · have e : its.length - f + d - 1 = d - 1 := by omega
        rw [e, Nat.div_eq_of_lt (by omega)]
        rfl
    rw [e3]
    refine List.map_congr_left fun k _ => ?_
    have e : (f : Int) + d * k = ((f + d * k : Nat) : Int) := by simp
    rw [e, Int.toNat_natCast]
  show List.filterMap (fun x => its.toArray[x]?) (sliceRange (f : Int) (its.length : Int) (d : Int)) = _
  rw [e2]
  congr 1
  funext x
  simp
theorem stepV_len {α : Type} (xs : List α) (f d : Nat) (hd : 0 < d) : (stepV xs f d).length ≤ xs.length := by
  refine Nat.le_trans (List.length_filterMap_le ..) ?_
  unfold stepN
  rw [List.length_map, List.length_range]
  rw [Nat.div_le_iff_le_mul_add_pred hd]
  have := Nat.le_mul_of_pos_left xs.length hd
  omega
section
variable {X : Cx}
def tStepL (K : PySem.W.Frag) (te : TE) (tl ts : TO) : TE := fun σ H Q => te σ H fun x H1 => tl σ H1 fun l H2 => ts σ H2 fun s H3 => ∃ a xs, ∃ f d : Nat, x = .ref a ∧ l = some (f : Int) ∧ s = some (d : Int) ∧ SqL K H3 a xs ∧ f ≤ xs.length ∧ 0 < d ∧ ∀ p, H3 p = none → Q (.ref p) (upd H3 p (.lst (stepV xs f d)))
theorem pe_stepL {e : Expr} {te : TE} {lo st : Expr} {tl ts : TO} {p2 pos : Pos} (he : PE X e te) (hl : PO X (some lo) tl) (hs : PO X (some st) ts) : PE X (.Subscript e (.Slice (some lo) none (some st) p2) pos) (tStepL X.K te tl ts) := by
  refine ⟨fun pins s σ H Q I h => ?_⟩
  refine Subscript_ (thn (he.run pins s σ H _ I h) fun v s1 ⟨x, H1, I1, r1, q1⟩ => ?_)
  refine wpAny_Slice (thn (hl.run pins s1 σ H1 _ I1 q1) fun vl s2 ⟨l, H2, I2, pl, q2⟩ => ?_)
  refine thn (po_none.run pins s2 σ H2 (fun o H3 => o = none ∧ H3 = H2) I2 ⟨rfl, rfl⟩) fun vu s3 ⟨u, H3, I3, pu, eu, e3⟩ => ?_
  subst eu e3
  refine thn (hs.run pins s3 σ H3 _ I3 q2) fun vs s4 ⟨o, H4, I4, ps, q4⟩ => ?_
  obtain ⟨a, xs, f, d, rfl, rfl, rfl, hx, hf, hd, q⟩ := q4
  cases r1
  have I5 : Inv X pins σ H4 { s4 with heap := s4.heap.push { cls := .type "slice", data := .fields #[vl, vu, vs] } } := I4.kept (t' := s4.toks) fun b ob q => Heap.get?_push_of_some _ q
  obtain ⟨its, r, ht, hz⟩ := I5.list hx
  have hlen := r.length
  show wpAny (model X.prog X.w) X.A (subscriptTail e (.Slice (some lo) none (some st) p2) (.ref a) (.ref s4.heap.objs.size)) (EP X pins σ Q) X.xe { s4 with heap := s4.heap.push { cls := .type "slice", data := .fields #[vl, vu, vs] } }
  refine tail_any (ops := [.ref a, .ref s4.heap.objs.size]) ht.isList.typeIs PySem.slot_list_getitem.lookup ?_ (by with_unfolding_all rfl)
  refine wpAny_getItem_list_slice ht.isList (Heap.IsSliceOf.new _ _ _ _) pl pu ps (by simp; omega) ?_ (by rw [List.size_toArray]; omega)
  rw [step_pick its (by omega) hd]
  have hv : Vals (stepV xs f d) (stepV its f d) := by
    unfold stepV
    rw [hlen]
    have key : ∀ ks : List Nat, Vals (ks.filterMap fun i => xs[i]?) (ks.filterMap fun i => its[i]?) := fun ks => by
      induction ks with
      | nil => exact .nil
      | cons k ks ih =>
        by_cases hk : k < xs.length
        · obtain ⟨u, hu, ru⟩ := r.get (List.getElem?_eq_getElem hk)
          rw [List.filterMap_cons_some (List.getElem?_eq_getElem hk), List.filterMap_cons_some hu]
          exact .cons ru ih
        · rw [List.filterMap_cons_none (List.getElem?_eq_none (by omega)), List.filterMap_cons_none (List.getElem?_eq_none (by omega))]
          exact ih
    exact key _
  refine ⟨.ref _, _, I5.laid (t' := s4.toks) (o := .lst (stepV xs f d)) (fun b ob q => Heap.get?_push_of_some _ q) (Nat.le_refl _) ?_, rfl, q _ (I5.hok.fresh (Nat.le_refl _))⟩
  have := stepV_len xs f d hd
  simp only [L2.ObjOk]
  exact ⟨by omega, _, _, hv, Heap.get?_push_size _ rfl⟩
end
end Z

/-! set(t), t a tuple of whole numbers; len of a set of them. -/
namespace Z
open PySem PySem.Spec PyProof.Rows L2
section
variable {X : Cx}
def rSetT (K : PySem.W.Frag) (w : World) : List V → Hp → VK → Prop := fun xs H Q => ∃ (p : Addr) (ns : List Int), xs = [.ref p] ∧ SqT K H p (ns.map V.int) ∧ ns.length ≤ 1000 ∧ ∀ a c, H a = none → c ≤ ns.length → Q (.ref a) (upd H a (SetO w a (fun j => decide (j ∈ ns)) c))
theorem cr_setT (hc : X.calm = true) : CallR X (.type "set") (rSetT X.K X.w) := by
  intro pins s σ H xs us Q I r h
  obtain ⟨p, ns, rfl, hs, hn, q⟩ := h
  cases r with
  | cons r rr =>
    cases rr
    cases r
    obtain ⟨its, v1, v2, v3⟩ := I.tuple hs
    have hi := v1.ints
    refine call_set_tupI ns (I.ok.hd hc) v2 hi (by show ns.length + 1 < scanBound; exact Nat.lt_of_le_of_lt (Nat.succ_le_succ hn) (by decide)) fun h' tk c hS hle hk => ?_
    refine ⟨.ref _, _, I.laid (t' := tk) (o := SetO X.w s.heap.objs.size (fun j => decide (j ∈ ns)) c) hk (Nat.le_refl _) (setO_new hS), rfl, q _ c (I.hok.fresh (Nat.le_refl _)) hle⟩
def rLenSet (w : World) : List V → Hp → VK → Prop := fun xs H Q => ∃ a S n, xs = [.ref a] ∧ H a = some (SetO w a S n) ∧ ∀ ks : List Int, ks.Nodup → ks.length = n → (∀ k, S k = true ↔ k ∈ ks) → Q (.int (n : Nat)) H
theorem cr_lenSet : CallR X (.builtin "len") (rLenSet X.w) := by
  intro pins s σ H xs us Q I r h
  obtain ⟨a, S, n, rfl, hs, q⟩ := h
  cases r with
  | cons r rr =>
    cases rr
    cases r
    obtain ⟨o, es, ep, t, h1, h2, h3, h4, h5, h6, h7, h8, h9, h10⟩ := setO_get I hs
    refine call_len_set h1 h2 h3 h8 (by
      have h11 : scanBound < 2 ^ 63 := by decide
      omega) ?_
    refine ⟨.int n, H, I.kept (t' := s.toks + 1 + 1) (fun _ _ q => q), ⟨_, by rw [h9]⟩, q _ h5 (by rw [List.length_map, Array.length_toList]; exact h9) h6⟩
/-- sorted(t), t a tuple of fewer than 64 whole numbers -/
def rSortT (K : PySem.W.Frag) : List V → Hp → VK → Prop := fun vs H Q => ∃ (a : Addr) (ns : List Int), vs = [.ref a] ∧ SqT K H a (ns.map V.int) ∧ ns.length < 64 ∧ ∀ (ns' : List Int) (p : Addr), ns'.Perm ns → ns'.Pairwise (· ≤ ·) → H p = none → Q (.ref p) (upd H p (.lst (ns'.map V.int)))
theorem cr_sortT : CallR X (.builtin "sorted") (rSortT X.K) := by
  intro pins s σ H xs us Q I r h
  obtain ⟨a, ns, rfl, hs, hn, q⟩ := h
  cases r with
  | cons r rr =>
    cases rr
    cases r
    obtain ⟨its, v1, v2, v3⟩ := I.tuple hs
    have hi := v1.ints
    have hlen : its.length = ns.length := by
      have := v1.length
      rw [List.length_map] at this
      exact this.symm
    have hsz : its.length ≤ sizeLine := by rw [hlen]; exact Nat.le_trans (Nat.le_of_lt hn) (by decide)
    obtain ⟨o, ho1, ho2, nn, ho3⟩ := v2
    refine Calls.call_function_entry kind_sorted plain_sorted entry_sorted (args_sorted1 _) ?_
    refine wpAny_bind (wpAny_of_eq (a := ()) (by rfl) ?_)
    refine wpAny_bind (wpAny_collect_seq a (.inr rfl) ho1 ho2 ho3 (fun h' hk => ?_) (by rw [List.size_toArray]; exact hsz))
    have I1 := I.kept (t' := s.toks) hk
    refine wpAny_bind (wpAny_newList ?_ (by simpa using hsz))
    refine wpAny_bind (wpAny_holding ?_)
    have hg : (h'.push (seqObj "list" its.toArray 0)).get? h'.objs.size = some (seqObj "list" its.toArray 0) := Heap.get?_push_size _ rfl
    refine wpAny_call_entry slot_list_sort ⟨_, hg, rfl⟩ entry_list_sort ?_ (args_list_sort _)
    refine list_sort_tree (vs := its) (by simpa using hg) hi (by rw [hlen]; exact hn) fun out ns' e1 e2 e3 => ?_
    refine ⟨_, rfl, ?_⟩
    refine wpAny_pure ⟨_, rfl, ?_⟩
    obtain ⟨e, he⟩ := sortedHeap_at (out := out) hg
    refine ⟨.ref _, _, I1.laid (t' := s.toks) (o := .lst (ns'.map V.int)) (a := h'.objs.size) (fun b u hb => ?_) (Nat.le_refl _) ?_, rfl, q ns' _ e2 e3 (I1.hok.fresh (Nat.le_refl _))⟩
    · have hb2 := Heap.lt_size hb
      refine (sortedHeap_old (fun e => ?_) ?_).trans (Heap.get?_push_of_some _ hb)
      · rw [e] at hb2
        exact Nat.lt_irrefl _ hb2
      · rw [size_push']
        exact Nat.lt_succ_of_lt hb2
    · simp only [L2.ObjOk]
      have := e2.length_eq
      refine ⟨by rw [List.length_map]; omega, out.toList, e, vals_of_ints e1, by simpa using he⟩
end
end Z

/-! Sets of numbers: sums of generators, their least ones, the least sum for each remainder. Plain Lean. -/
namespace NM
/-- n is a sum of these -/
inductive Sg (g : List Int) : Int → Prop
  | zero : Sg g 0
  | add {a s : Int} : a ∈ g → Sg g s → Sg g (a + s)
def Pos (g : List Int) : Prop := ∀ a ∈ g, 0 < a
theorem Sg.nonneg {g : List Int} (h : Pos g) {s : Int} (q : Sg g s) : 0 ≤ s := by
  induction q with
  | zero => omega
  | add ha _ ih =>
    have := h _ ha
    omega
theorem Sg.mem {g : List Int} {a : Int} (h : a ∈ g) : Sg g a := by
  have := Sg.add h .zero
  rwa [Int.add_zero] at this
theorem Sg.plus {g : List Int} {s t : Int} (h : Sg g s) (k : Sg g t) : Sg g (s + t) := by
  induction h with
  | zero => rwa [Int.zero_add]
  | add ha _ ih =>
    rw [Int.add_assoc]
    exact .add ha ih
theorem Sg.sub {g g' : List Int} (h : ∀ a ∈ g, Sg g' a) {s : Int} (q : Sg g s) : Sg g' s := by
  induction q with
  | zero => exact .zero
  | add ha _ ih => exact (h _ ha).plus ih
theorem Sg.mul {g : List Int} {s : Int} (h : Sg g s) : ∀ n : Nat, Sg g (n * s)
  | 0 => by simpa using Sg.zero
  | n + 1 => by
    have e : ((n + 1 : Nat) : Int) * s = n * s + s := by rw [Int.natCast_add, Int.add_mul]; simp
    rw [e]
    exact (h.mul n).plus h
theorem Sg.up {g g' : List Int} (h : ∀ a ∈ g, a ∈ g') {s : Int} (q : Sg g s) : Sg g' s := q.sub fun a ha => .mem (h a ha)
/-- the sums of g with one number more -/
theorem Sg.snoc {g : List Int} {a s : Int} : Sg (g ++ [a]) s ↔ ∃ (k : Nat) (t : Int), Sg g t ∧ s = t + k * a := by
  constructor
  · intro q
    induction q with
    | zero => exact ⟨0, 0, .zero, by simp⟩
    | add hb _ ih =>
      obtain ⟨k, t, h1, h2⟩ := ih
      rcases List.mem_append.mp hb with hb | hb
      · exact ⟨k, _, .add hb h1, by rw [h2, Int.add_assoc]⟩
      · rw [List.mem_singleton] at hb
        subst hb
        refine ⟨k + 1, t, h1, ?_⟩
        rw [h2, Int.natCast_add, Int.add_mul]
        omega
  · rintro ⟨k, t, h1, rfl⟩
    exact (h1.up fun b hb => List.mem_append_left _ hb).plus ((Sg.mem (by simp)).mul k)
theorem sg_nil {s : Int} : Sg [] s ↔ s = 0 := ⟨fun q => by
  cases q with
  | zero => rfl
  | add h _ => simp at h, fun h => by rw [h]; exact .zero⟩
/-- what a sum of positive numbers is made of is not greater -/
theorem Sg.small {g : List Int} (hp : Pos g) {s : Int} (q : Sg g s) : Sg (g.filter fun a => decide (a ≤ s)) s := by
  induction q with
  | zero => exact .zero
  | @add a s ha hs ih =>
    have h1 := hp a ha
    have h2 := Sg.nonneg hp hs
    refine .add (List.mem_filter.mpr ⟨ha, decide_eq_true (by omega)⟩) (ih.up fun b hb => ?_)
    obtain ⟨h3, h4⟩ := List.mem_filter.mp hb
    exact List.mem_filter.mpr ⟨h3, decide_eq_true (by have := of_decide_eq_true h4; omega)⟩
/-! ### atoms -/
def Atom (S : Int → Prop) (n : Int) : Prop := S n ∧ 0 < n ∧ ∀ a b, S a → S b → 0 < a → 0 < b → a + b ≠ n
/-- ascending, from 1 on, none a sum of lesser ones -/
structure Least (g : List Int) : Prop where
  pos : Pos g
  asc : g.Pairwise (· < ·)
  min : ∀ a ∈ g, ¬ Sg (g.filter fun b => decide (b < a)) a
theorem Least.atom {g : List Int} (h : Least g) {a : Int} : a ∈ g ↔ Atom (Sg g) a := by
  constructor
  · intro ha
    refine ⟨.mem ha, h.pos a ha, fun x y hx hy h1 h2 e => h.min a ha ?_⟩
    have f : ∀ z, Sg g z → z < a → Sg (g.filter fun b => decide (b < a)) z := fun z hz hl => (Sg.small h.pos hz).up fun b hb => by
      obtain ⟨h3, h4⟩ := List.mem_filter.mp hb
      exact List.mem_filter.mpr ⟨h3, decide_eq_true (by have := of_decide_eq_true h4; omega)⟩
    have := (f x hx (by omega)).plus (f y hy (by omega))
    rwa [e] at this
  · rintro ⟨h1, h2, h3⟩
    cases h1 with
    | zero => omega
    | @add b s hb hs =>
      by_cases h0 : s = 0
      · subst h0
        rwa [Int.add_zero]
      · have hs0 := Sg.nonneg h.pos hs
        exact (h3 b s (.mem hb) hs (h.pos b hb) (by omega) rfl).elim
theorem asc_ext : ∀ {g k : List Int}, g.Pairwise (· < ·) → k.Pairwise (· < ·) → (∀ a, a ∈ g ↔ a ∈ k) → g = k
  | [], [], _, _, _ => rfl
  | [], b :: k, _, _, h => by simpa using (h b).mpr (List.mem_cons_self ..)
  | a :: g, [], _, _, h => by simpa using (h a).mp (List.mem_cons_self ..)
  | a :: g, b :: k, h1, h2, h => by
    obtain ⟨p1, p2⟩ := List.pairwise_cons.mp h1
    obtain ⟨q1, q2⟩ := List.pairwise_cons.mp h2
    have e : a = b := by
      rcases List.mem_cons.mp ((h a).mp (List.mem_cons_self ..)) with e | e
      · exact e
      · rcases List.mem_cons.mp ((h b).mpr (List.mem_cons_self ..)) with e2 | e2
        · exact e2.symm
        · have := p1 b e2
          have := q1 a e
          omega
    subst e
    rw [asc_ext p2 q2 fun c => ?_]
    constructor
    · intro hc
      rcases List.mem_cons.mp ((h c).mp (List.mem_cons_of_mem _ hc)) with e | e
      · have := p1 c hc
        omega
      · exact e
    · intro hc
      rcases List.mem_cons.mp ((h c).mpr (List.mem_cons_of_mem _ hc)) with e | e
      · have := q1 c hc
        omega
      · exact e
/-- sets of the same sums have the same least numbers -/
theorem Least.ext {g k : List Int} (h1 : Least g) (h2 : Least k) (h : ∀ s, Sg g s ↔ Sg k s) : g = k := by
  refine asc_ext h1.asc h2.asc fun a => ?_
  rw [h1.atom, h2.atom]
  have e : Sg g = Sg k := funext fun s => propext (h s)
  rw [e]
/-- one more number behind least ones, which is no sum of them -/
theorem Least.snoc {g : List Int} {a : Int} (h : Least g) (ha : 0 < a) (hl : ∀ b ∈ g, b < a) (hn : ¬ Sg g a) : Least (g ++ [a]) where
  pos b hb := by
    rcases List.mem_append.mp hb with hb | hb
    · exact h.pos b hb
    · rw [List.mem_singleton] at hb
      omega
  asc := List.pairwise_append.mpr ⟨h.asc, List.pairwise_singleton .., fun b hb c hc => by
    rw [List.mem_singleton] at hc
    rw [hc]
    exact hl b hb⟩
  min b hb q := by
    rcases List.mem_append.mp hb with hb | hb
    · refine h.min b hb (q.up fun c hc => ?_)
      obtain ⟨h3, h4⟩ := List.mem_filter.mp hc
      have h5 := of_decide_eq_true h4
      rcases List.mem_append.mp h3 with h3 | h3
      · exact List.mem_filter.mpr ⟨h3, h4⟩
      · rw [List.mem_singleton] at h3
        have := hl b hb
        omega
    · rw [List.mem_singleton] at hb
      subst hb
      refine hn (q.up fun c hc => ?_)
      obtain ⟨h3, h4⟩ := List.mem_filter.mp hc
      have h5 := of_decide_eq_true h4
      rcases List.mem_append.mp h3 with h3 | h3
      · exact h3
      · rw [List.mem_singleton] at h3
        omega
theorem least_nil : Least [] := ⟨fun a h => by simp at h, .nil, fun a h => by simp at h⟩
theorem pos_filter {g : List Int} (h : Pos g) (p : Int → Bool) : Pos (g.filter p) := fun a ha => h a (List.mem_filter.mp ha).1
theorem Least.filter {g : List Int} (h : Least g) (p : Int → Bool) : Least (g.filter p) where
  pos := pos_filter h.pos p
  asc := h.asc.filter p
  min a ha q := h.min a (List.mem_filter.mp ha).1 (q.up fun b hb => by
    obtain ⟨h1, h2⟩ := List.mem_filter.mp hb
    exact List.mem_filter.mpr ⟨(List.mem_filter.mp h1).1, h2⟩)
/-! ### sums as bits -/
def Bits (N : Nat) (S : Int → Prop) : Prop := ∀ n : Nat, n ≤ 1000 → (N.testBit n = true ↔ S n)
theorem bits_one : Bits 1 (Sg []) := fun n _ => by
  rw [sg_nil, show (1 : Nat) = 2 ^ 0 from rfl, Nat.testBit_two_pow]
  simp
  omega
/-- the sums with up to k times d added -/
def Mul (M : Nat) (d k : Nat) (n : Int) : Prop := ∃ j : Nat, j < k ∧ ∃ m : Nat, n = m + j * d ∧ M.testBit m = true
theorem mul_one {M d : Nat} (hM : M < 2 ^ 1001) : Bits M (Mul M d 1) := fun n _ => by
  constructor
  · intro h
    exact ⟨0, by omega, n, by simp, h⟩
  · rintro ⟨j, hj, m, e, h⟩
    have : j = 0 := by omega
    subst this
    have : n = m := by simp at e; omega
    rwa [this]
theorem mul_two {M d k N : Nat} (h : Bits N (Mul M d k)) : Bits ((N ||| (N <<< (k * d))) % 2 ^ 1001) (Mul M d (k + k)) := fun n hn => by
  rw [Nat.testBit_mod_two_pow, Nat.testBit_or, Nat.testBit_shiftLeft, decide_eq_true (show n < 1001 by omega), Bool.true_and, Bool.or_eq_true, Bool.and_eq_true, decide_eq_true_eq, h n hn]
  constructor
  · rintro (⟨j, hj, m, e, q⟩ | ⟨h1, h2⟩)
    · exact ⟨j, by omega, m, e, q⟩
    · obtain ⟨j, hj, m, e, q⟩ := (h (n - k * d) (by omega)).mp h2
      refine ⟨j + k, by omega, m, ?_, q⟩
      have e2 : ((n - k * d : Nat) : Int) = (n : Int) - (k * d : Nat) := by omega
      rw [e2] at e
      have e3 : ((j + k : Nat) : Int) * d = j * d + (k * d : Nat) := by
        rw [Int.natCast_add, Int.add_mul, Int.natCast_mul]
      omega
  · rintro ⟨j, hj, m, e, q⟩
    by_cases hk : j < k
    · exact .inl ⟨j, hk, m, e, q⟩
    · have e3 : ((j : Nat) : Int) * d = ((j - k : Nat) : Int) * d + (k * d : Nat) := by
        rw [Int.natCast_mul, ← Int.add_mul]
        congr 1
        omega
      have hnn : (0 : Int) ≤ ((j - k : Nat) : Int) * d := Int.mul_nonneg (by omega) (by omega)
      refine .inr ⟨by omega, (h (n - k * d) (by omega)).mpr ⟨j - k, by omega, m, by omega, q⟩⟩
theorem mul_all {M d k : Nat} {g : List Int} (hM : Bits M (Sg g)) (hg : Pos g) (h : 1000 < k * d) : ∀ n : Nat, n ≤ 1000 → (Mul M d k n ↔ Sg (g ++ [(d : Int)]) n) := fun n hn => by
  rw [Sg.snoc]
  constructor
  · rintro ⟨j, hj, m, e, q⟩
    have h0 : (0 : Int) ≤ (j : Int) * d := Int.mul_nonneg (by omega) (by omega)
    exact ⟨j, m, (hM m (by omega)).mp q, e⟩
  · rintro ⟨j, t, h1, e⟩
    have ht := Sg.nonneg hg h1
    have h0 : (0 : Int) ≤ (j : Int) * d := Int.mul_nonneg (by omega) (by omega)
    obtain ⟨m, rfl⟩ := Int.eq_ofNat_of_zero_le ht
    refine ⟨j, ?_, m, e, (hM m (by omega)).mpr h1⟩
    refine Nat.lt_of_not_le fun hk => ?_
    have h2 : k * d ≤ j * d := Nat.mul_le_mul_right d hk
    have h3 : ((j * d : Nat) : Int) = (j : Int) * d := Int.natCast_mul ..
    omega
end NM

namespace NM
/-! ### going round: n0, n0 + a, .. by the remainders of m -/
theorem bez (m : Nat) : ∀ a : Nat, ∃ x : Int, ((m : Nat) : Int) ∣ (a : Int) * x - ((Nat.gcd a m : Nat) : Int) := by
  -- by Euclid, for all m
  have key : ∀ b a : Nat, ∃ x y : Int, (a : Int) * x + (b : Int) * y = ((Nat.gcd a b : Nat) : Int) := by
    intro b
    induction b using Nat.strongRecOn with
    | ind b ih =>
      intro a
      by_cases hb : b = 0
      · subst hb
        exact ⟨1, 0, by simp⟩
      · obtain ⟨x, y, e⟩ := ih (a % b) (Nat.mod_lt _ (by omega)) b
        refine ⟨y, x - (a / b : Nat) * y, ?_⟩
        have e1 : Nat.gcd a b = Nat.gcd b (a % b) := by rw [Nat.gcd_comm a b, Nat.gcd_rec b a, Nat.gcd_comm]
        rw [e1, ← e]
        have e2 : (a : Int) = (b : Int) * (a / b : Nat) + (a % b : Nat) := by exact_mod_cast (Nat.div_add_mod a b).symm
        have e3 : (a : Int) * y = (b : Int) * (a / b : Nat) * y + (a % b : Nat) * y := by
          rw [← Int.add_mul, ← e2]
        rw [e3, Int.mul_sub, Int.mul_assoc]
        omega
  intro a
  obtain ⟨x, y, e⟩ := key m a
  exact ⟨x, -y, by rw [← e, Int.mul_neg]; omega⟩
/-- c = m / gcd a m turns lead round once -/
structure Rnd (m a d c : Nat) : Prop where
  m0 : 0 < m
  a0 : 0 < a
  d_ : d = Nat.gcd a m
  c_ : c = m / d
section
variable {m a d c : Nat} (R : Rnd m a d c)
include R
theorem Rnd.d0 : 0 < d := by
  rw [R.d_]
  exact Nat.gcd_pos_of_pos_left _ R.a0
theorem Rnd.dm : d ∣ m := by
  rw [R.d_]
  exact Nat.gcd_dvd_right ..
theorem Rnd.da : d ∣ a := by
  rw [R.d_]
  exact Nat.gcd_dvd_left ..
theorem Rnd.cd : c * d = m := by
  rw [R.c_]
  exact Nat.div_mul_cancel R.dm
theorem Rnd.c0 : 0 < c := by
  refine Nat.pos_of_ne_zero fun h => ?_
  have := R.cd
  rw [h] at this
  have := R.m0
  omega
theorem Rnd.turn : (m : Int) ∣ (c : Int) * a := by
  obtain ⟨q, hq⟩ := R.da
  refine ⟨q, ?_⟩
  have : (c * a : Nat) = m * q := by rw [hq, ← Nat.mul_assoc, R.cd]
  exact_mod_cast this
theorem Rnd.far {t : Nat} (h : (m : Int) ∣ (t : Int) * a) : c ∣ t := by
  have h1 : m ∣ t * a := by exact_mod_cast h
  obtain ⟨q, hq⟩ := R.da
  have h2 : c * d ∣ (t * q) * d := by
    rw [R.cd, Nat.mul_assoc, Nat.mul_comm q d, ← hq]
    exact h1
  have h3 : c ∣ t * q := Nat.dvd_of_mul_dvd_mul_right R.d0 h2
  refine Nat.Coprime.dvd_of_dvd_mul_right ?_ h3
  have hc : (a / d).Coprime (m / d) := by
    have := Nat.coprime_div_gcd_div_gcd (m := a) (n := m) (by rw [← R.d_]; exact R.d0)
    rwa [← R.d_] at this
  have e1 : a / d = q := by rw [hq, Nat.mul_div_cancel_left _ R.d0]
  rw [e1, ← R.c_] at hc
  exact hc.symm
/-- two turns that lead to the same place -/
theorem Rnd.same {n : Int} {i j : Nat} (hi : i ≤ j) (hj : j < c) (h : (m : Int) ∣ (n + (i : Nat) * (a : Int)) - (n + (j : Nat) * (a : Int))) : i = j := by
  have h1 : (m : Int) ∣ ((j - i : Nat) : Int) * a := by
    have e : ((j - i : Nat) : Int) * a = -((n + (i : Nat) * (a : Int)) - (n + (j : Nat) * (a : Int))) := by
      have : ((j - i : Nat) : Int) = (j : Int) - i := by omega
      rw [this, Int.sub_mul]
      omega
    rw [e]
    exact Int.dvd_neg.mpr h
  have h3 := R.far h1
  by_cases hz : j - i = 0
  · omega
  · have := Nat.le_of_dvd (show 0 < j - i by omega) h3
    omega
/-- each place of the class is met -/
theorem Rnd.met {n i : Int} (h : (d : Int) ∣ i - n) : ∃ j : Nat, j < c ∧ (m : Int) ∣ i - (n + (j : Nat) * (a : Int)) := by
  obtain ⟨x, y, hx⟩ := bez m a
  rw [← R.d_] at hx
  obtain ⟨k, hk⟩ := h
  -- a * x = d + m * y, so a * (x * k) = i - n + m * (y * k)
  have hc : (0 : Int) < c := by have := R.c0; omega
  refine ⟨((x * k) % c).toNat, ?_, ?_⟩
  · have := Int.emod_lt_of_pos (x * k) hc
    have := Int.emod_nonneg (x * k) (show (c : Int) ≠ 0 by omega)
    omega
  · have e0 := Int.emod_nonneg (x * k) (show (c : Int) ≠ 0 by omega)
    rw [Int.toNat_of_nonneg e0]
    obtain ⟨t, ht⟩ := R.turn
    have e1 := Int.mul_ediv_add_emod (x * k) c
    have e2 : (x * k % c) * (a : Int) = x * k * a - (x * k / c) * (c * a) := by
      have : (x * k % c) = x * k - c * (x * k / c) := by omega
      rw [this, Int.sub_mul, Int.mul_comm (c : Int) (x * k / c), Int.mul_assoc (x * k / c) (c : Int) (a : Int)]
    have e3 : x * k * (a : Int) = (i - n) + m * (y * k) := by
      have : (a : Int) * x = d + m * y := by omega
      calc x * k * (a : Int) = (a * x) * k := by rw [Int.mul_comm (x * k), Int.mul_assoc]
        _ = d * k + m * y * k := by rw [this, Int.add_mul]
        _ = (i - n) + m * (y * k) := by rw [hk, Int.mul_assoc]
    refine ⟨(x * k / c) * t - y * k, ?_⟩
    rw [e2, e3, ht, Int.mul_sub]
    have : (x * k / c) * ((m : Int) * t) = m * ((x * k / c) * t) := by rw [Int.mul_left_comm]
    omega
end
/-! ### tables -/
abbrev Tab := List (Option Int)
/-- the place of n -/
abbrev pl (m : Nat) (n : Int) : Nat := (n % (m : Int)).toNat
theorem pl_lt {m : Nat} (h : 0 < m) (n : Int) : pl m n < m := by
  have := Int.emod_lt_of_pos n (show (0 : Int) < m by omega)
  have := Int.emod_nonneg n (show (m : Int) ≠ 0 by omega)
  unfold pl
  omega
theorem pl_eq {m : Nat} (h : 0 < m) {x y : Int} : pl m x = pl m y ↔ (m : Int) ∣ x - y := by
  have a1 := Int.emod_nonneg x (show (m : Int) ≠ 0 by omega)
  have a2 := Int.emod_nonneg y (show (m : Int) ≠ 0 by omega)
  constructor
  · intro e
    have : x % m = y % m := by unfold pl at e; omega
    exact Int.dvd_of_emod_eq_zero (Int.emod_eq_emod_iff_emod_sub_eq_zero.mp this)
  · intro e
    have := Int.emod_eq_emod_iff_emod_sub_eq_zero.mpr (Int.emod_eq_zero_of_dvd e)
    unfold pl
    rw [this]
/-- what stands in the table is a sum and in its place -/
def Sound (S : Int → Prop) (m : Nat) (L : Tab) : Prop := ∀ (i : Nat) (v : Int), L[i]? = some (some v) → S v ∧ pl m v = i
/-- there is something not greater in n's place -/
def Has (m : Nat) (L : Tab) (n : Int) : Prop := ∃ v, L[pl m n]? = some (some v) ∧ v ≤ n
theorem Has.le {m : Nat} {L : Tab} {n k : Int} (h : Has m L n) (e : (m : Int) ∣ k - n) (hm : 0 < m) (hl : n ≤ k) : Has m L k := by
  obtain ⟨v, h1, h2⟩ := h
  exact ⟨v, by rw [(pl_eq hm).mpr e]; exact h1, by omega⟩
/-- L' is not greater anywhere -/
def Low (L L' : Tab) : Prop := ∀ (i : Nat) (v : Int), L[i]? = some (some v) → ∃ v', L'[i]? = some (some v') ∧ v' ≤ v
theorem Low.refl (L : Tab) : Low L L := fun i v h => ⟨v, h, by omega⟩
theorem Low.trans {L L' L'' : Tab} (h : Low L L') (k : Low L' L'') : Low L L'' := fun i v e => by
  obtain ⟨v', h1, h2⟩ := h i v e
  obtain ⟨v'', h3, h4⟩ := k i v' h1
  exact ⟨v'', h3, by omega⟩
theorem Has.low {m : Nat} {L L' : Tab} {n : Int} (h : Has m L n) (k : Low L L') : Has m L' n := by
  obtain ⟨v, h1, h2⟩ := h
  obtain ⟨v', h3, h4⟩ := k _ v h1
  exact ⟨v', h3, by omega⟩
/-- one step on from place i -/
def Clo (m a : Nat) (L : Tab) (i : Nat) : Prop := ∀ v, L[i]? = some (some v) → Has m L (v + a)
/-- one turn of the inner loop -/
def turnV (m a : Nat) (L : Tab) (u : Int) : Int := match L[pl m (u + a)]? with
  | some (some k) => if k < u + a then k else u + a
  | _ => u + a
def turnL (m a : Nat) (L : Tab) (u : Int) : Tab := L.set (pl m (u + a)) (some (turnV m a L u))
structure Inn (S : Int → Prop) (m a d : Nat) (n0 : Int) (L0 : Tab) (t : Nat) (L : Tab) (u : Int) : Prop where
  len : L.length = m
  cur : (m : Int) ∣ u - (n0 + (t : Nat) * (a : Int))
  at_ : L[pl m u]? = some (some u)
  ge : n0 ≤ u
  sound : Sound S m L
  le : Low L0 L
  away : ∀ i : Nat, ¬ (d : Int) ∣ (i : Int) - n0 → L[i]? = L0[i]?
  low : ∀ (i : Nat) (v : Int), (d : Int) ∣ (i : Int) - n0 → L[i]? = some (some v) → n0 ≤ v
  st : L[pl m n0]? = some (some n0)
  chain : ∀ j : Nat, j < t → ∃ v v', L[pl m (n0 + (j : Nat) * (a : Int))]? = some (some v) ∧ L[pl m (n0 + ((j + 1 : Nat) : Nat) * (a : Int))]? = some (some v') ∧ v' ≤ v + a
theorem pl_mod {m d : Nat} (hm : 0 < m) (h : d ∣ m) (n : Int) : (d : Int) ∣ (pl m n : Int) - n := by
  have a1 := Int.emod_nonneg n (show (m : Int) ≠ 0 by omega)
  have e : ((pl m n : Nat) : Int) = n % m := by unfold pl; omega
  obtain ⟨q, hq⟩ := h
  refine ⟨-(q * (n / m)), ?_⟩
  have := Int.emod_def n m
  rw [e, this, Int.mul_neg, ← Int.mul_assoc]
  have : ((d : Nat) : Int) * q = m := by exact_mod_cast hq.symm
  rw [this]
  omega
section
variable {S : Int → Prop} {m a d c : Nat} {n0 : Int} {L0 L : Tab} {t : Nat} {u : Int} (R : Rnd m a d c)
include R
theorem Inn.turn (I : Inn S m a d n0 L0 t L u) (ht : t < c) (hS : ∀ s, S s → S (s + a)) : Inn S m a d n0 L0 (t + 1) (turnL m a L u) (turnV m a L u) := by
  have hm := R.m0
  have hp := pl_lt hm (u + a)
  -- the new value
  have hSu : S u := (I.sound _ _ I.at_).1
  have hclass : (d : Int) ∣ (u + a) - n0 := by
    have h1 : (d : Int) ∣ u - (n0 + (t : Nat) * (a : Int)) := Int.dvd_trans (Int.ofNat_dvd.mpr R.dm) I.cur
    have h2 : (d : Int) ∣ ((t + 1 : Nat) : Int) * a := Int.dvd_mul_of_dvd_right (Int.ofNat_dvd.mpr R.da)
    have e : (u + a) - n0 = (u - (n0 + (t : Nat) * (a : Int))) + ((t + 1 : Nat) : Int) * a := by
      have : ((t + 1 : Nat) : Int) * a = t * a + a := by rw [Int.natCast_add, Int.add_mul]; simp
      omega
    rw [e]
    exact Int.dvd_add h1 h2
  have hpc : (d : Int) ∣ ((pl m (u + a) : Nat) : Int) - n0 := by
    have h1 := pl_mod hm R.dm (u + a)
    have e : ((pl m (u + a) : Nat) : Int) - n0 = ((pl m (u + a) : Nat) : Int) - (u + a) + ((u + a) - n0) := by omega
    rw [e]
    exact Int.dvd_add h1 hclass
  have hv : S (turnV m a L u) ∧ pl m (turnV m a L u) = pl m (u + a) ∧ n0 ≤ turnV m a L u ∧ turnV m a L u ≤ u + a ∧ ∀ k, L[pl m (u + a)]? = some (some k) → turnV m a L u ≤ k := by
    unfold turnV
    split
    · rename_i k hk
      obtain ⟨k1, k2⟩ := I.sound _ _ hk
      have k3 := I.low _ _ hpc hk
      split
      · refine ⟨k1, k2, k3, by omega, fun k' hk' => ?_⟩
        rw [hk] at hk'
        cases hk'
        omega
      · refine ⟨hS u hSu, rfl, by have := I.ge; omega, by omega, fun k' hk' => ?_⟩
        rw [hk] at hk'
        cases hk'
        omega
    · rename_i hk
      exact ⟨hS u hSu, rfl, by have := I.ge; omega, by omega, fun k' hk' => (hk k' hk').elim⟩
  obtain ⟨v1, v2, v3, v4, v5⟩ := hv
  have hcur : (m : Int) ∣ (u + a) - (n0 + ((t + 1 : Nat) : Nat) * (a : Int)) := by
    have e : (u + a) - (n0 + ((t + 1 : Nat) : Nat) * (a : Int)) = u - (n0 + (t : Nat) * (a : Int)) := by
      have : ((t + 1 : Nat) : Int) * a = t * a + a := by rw [Int.natCast_add, Int.add_mul]; simp
      omega
    rw [e]
    exact I.cur
  have hpe : pl m (u + a) = pl m (n0 + ((t + 1 : Nat) : Nat) * (a : Int)) := (pl_eq hm).mpr hcur
  have hut : pl m u = pl m (n0 + (t : Nat) * (a : Int)) := (pl_eq hm).mpr I.cur
  have get_same : (turnL m a L u)[pl m (u + a)]? = some (some (turnV m a L u)) := by
    unfold turnL
    rw [List.getElem?_set_self (by rw [I.len]; exact hp)]
  have get_ne : ∀ i, i ≠ pl m (u + a) → (turnL m a L u)[i]? = L[i]? := fun i hi => by
    unfold turnL
    rw [List.getElem?_set_ne (fun e => hi e.symm)]
  -- where the round closes, nothing changes
  have hst : (turnL m a L u)[pl m n0]? = some (some n0) := by
    by_cases e : pl m n0 = pl m (u + a)
    · rw [e, get_same]
      have h1 := v5 n0 (by rw [← e]; exact I.st)
      have : turnV m a L u = n0 := by omega
      rw [this]
    · rw [get_ne _ e]
      exact I.st
  refine ⟨?_, ?_, ?_, v3, ?_, ?_, ?_, ?_, hst, ?_⟩
  · unfold turnL
    rw [List.length_set]
    exact I.len
  · have h1 := (pl_eq hm).mp v2
    have e : turnV m a L u - (n0 + ((t + 1 : Nat) : Nat) * (a : Int)) = (turnV m a L u - (u + a)) + ((u + a) - (n0 + ((t + 1 : Nat) : Nat) * (a : Int))) := by omega
    rw [e]
    exact Int.dvd_add h1 hcur
  · rw [v2]
    exact get_same
  · intro i v h
    by_cases e : i = pl m (u + a)
    · subst e
      rw [get_same] at h
      cases h
      exact ⟨v1, v2⟩
    · rw [get_ne _ e] at h
      exact I.sound i v h
  · intro i v h
    obtain ⟨v', h1, h2⟩ := I.le i v h
    by_cases e : i = pl m (u + a)
    · subst e
      exact ⟨_, get_same, by have := v5 v' h1; omega⟩
    · exact ⟨v', by rw [get_ne _ e]; exact h1, h2⟩
  · intro i hi
    rw [get_ne i fun e => hi (by rw [e]; exact hpc)]
    exact I.away i hi
  · intro i v hi h
    by_cases e : i = pl m (u + a)
    · subst e
      rw [get_same] at h
      cases h
      exact v3
    · rw [get_ne _ e] at h
      exact I.low i v hi h
  · -- the chain
    by_cases hc : t + 1 = c
    · -- back at n0
      have hback : pl m (u + a) = pl m n0 := by
        rw [hpe]
        refine (pl_eq hm).mpr ?_
        have e : n0 + ((t + 1 : Nat) : Nat) * (a : Int) - n0 = (c : Int) * a := by rw [hc]; omega
        rw [e]
        exact R.turn
      have same : ∀ i, (turnL m a L u)[i]? = L[i]? := fun i => by
        by_cases e : i = pl m (u + a)
        · rw [e, hback, hst, I.st]
        · exact get_ne i e
      intro j hj
      by_cases hjt : j < t
      · obtain ⟨v, v', h1, h2, h3⟩ := I.chain j hjt
        exact ⟨v, v', by rw [same]; exact h1, by rw [same]; exact h2, h3⟩
      · have : j = t := by omega
        subst this
        exact ⟨u, _, by rw [same, ← hut]; exact I.at_, by rw [← hpe]; exact get_same, v4⟩
    · have far : ∀ j : Nat, j ≤ t → pl m (n0 + (j : Nat) * (a : Int)) ≠ pl m (u + a) := fun j hj e => by
        rw [hpe] at e
        have := R.same (n := n0) (show j ≤ t + 1 by omega) (by omega) ((pl_eq hm).mp e)
        omega
      intro j hj
      by_cases hjt : j < t
      · obtain ⟨v, v', h1, h2, h3⟩ := I.chain j hjt
        exact ⟨v, v', by rw [get_ne _ (far j (by omega))]; exact h1, by rw [get_ne _ (far (j + 1) (by omega))]; exact h2, h3⟩
      · have : j = t := by omega
        subst this
        exact ⟨u, _, by rw [get_ne _ (far j (by omega)), ← hut]; exact I.at_, by rw [← hpe]; exact get_same, v4⟩
/-- behind the round: each place of the class leads on -/
theorem Inn.closed (I : Inn S m a d n0 L0 c L u) : ∀ i : Nat, i < m → (d : Int) ∣ (i : Int) - n0 → Clo m a L i := fun i hi hd v hv => by
  have hm := R.m0
  obtain ⟨j, hj, e⟩ := R.met hd
  obtain ⟨w, w', h1, h2, h3⟩ := I.chain j hj
  have hpi : pl m ((i : Nat) : Int) = i := by
    unfold pl
    rw [Int.emod_eq_of_lt (by omega) (by omega)]
    rfl
  have e1 : i = pl m (n0 + (j : Nat) * (a : Int)) := by rw [← hpi]; exact (pl_eq hm).mpr e
  rw [← e1, hv] at h1
  cases h1
  refine ⟨w', ?_, h3⟩
  have h4 := (I.sound i v hv).2
  have h5 : (m : Int) ∣ v - (n0 + (j : Nat) * (a : Int)) := (pl_eq hm).mp (by rw [h4]; exact e1)
  have e2 : pl m (v + a) = pl m (n0 + ((j + 1 : Nat) : Nat) * (a : Int)) := by
    refine (pl_eq hm).mpr ?_
    have e : v + a - (n0 + ((j + 1 : Nat) : Nat) * (a : Int)) = v - (n0 + (j : Nat) * (a : Int)) := by
      have : ((j + 1 : Nat) : Int) * a = j * a + a := by rw [Int.natCast_add, Int.add_mul]; simp
      omega
    rw [e]
    exact h5
  rw [e2]
  exact h2
end
/-! ### one number more -/
/-- behind the classes below f -/
structure Cls (g : List Int) (m a d : Nat) (L0 : Tab) (f : Nat) (L : Tab) : Prop where
  len : L.length = m
  sound : Sound (Sg (g ++ [(a : Int)])) m L
  le : Low L0 L
  clo : ∀ i : Nat, i < m → i % d < f → Clo m a L i
/-- all sums of g have their least one -/
structure TabS (g : List Int) (m : Nat) (L : Tab) : Prop where
  len : L.length = m
  sound : Sound (Sg g) m L
  has : ∀ s, Sg g s → Has m L s
theorem Cls.start {g : List Int} {m a d : Nat} {L : Tab} (h : TabS g m L) : Cls g m a d L 0 L :=
  ⟨h.len, fun i v e => ⟨(h.sound i v e).1.up fun b hb => List.mem_append_left _ hb, (h.sound i v e).2⟩, .refl L, fun i _ h => by omega⟩
theorem Cls.done {g : List Int} {m a d c : Nat} {L0 L : Tab} (R : Rnd m a d c) (h0 : TabS g m L0) (h : Cls g m a d L0 d L) : TabS (g ++ [(a : Int)]) m L := by
  refine ⟨h.len, h.sound, fun s q => ?_⟩
  obtain ⟨k, t, h1, rfl⟩ := Sg.snoc.mp q
  clear q
  have hm := R.m0
  induction k with
  | zero =>
    have := (h0.has t h1).low h.le
    simpa using this
  | succ k ih =>
    obtain ⟨v, h2, h3⟩ := ih
    have h4 := h.clo _ (pl_lt hm _) (Nat.mod_lt _ R.d0) v h2
    have h5 := (h.sound _ _ h2).2
    have e : ((k + 1 : Nat) : Int) * a = k * a + a := by rw [Int.natCast_add, Int.add_mul]; simp
    refine h4.le ?_ hm (by omega)
    have h6 := (pl_eq hm).mp h5
    have e2 : t + ((k + 1 : Nat) : Int) * a - (v + a) = -(v - (t + (k : Nat) * (a : Int))) := by omega
    rw [e2]
    exact Int.dvd_neg.mpr h6
/-- a class without sums -/
theorem Cls.skip {g : List Int} {m a d f : Nat} {L0 L : Tab} (h : Cls g m a d L0 f L) (hn : ∀ (i : Nat) (v : Int), i < m → i % d = f → L[i]? ≠ some (some v)) : Cls g m a d L0 (f + 1) L :=
  ⟨h.len, h.sound, h.le, fun i hi hf => by
    by_cases e : i % d = f
    · exact fun v hv => (hn i v hi e hv).elim
    · exact h.clo i hi (by omega)⟩
theorem Cls.inn {g : List Int} {m a d c f : Nat} {L0 L : Tab} (R : Rnd m a d c) (h : Cls g m a d L0 f L) {p : Nat} {n0 : Int} (hp : p < m) (hf : p % d = f) (h1 : L[p]? = some (some n0)) (h2 : ∀ (i : Nat) (v : Int), i < m → i % d = f → L[i]? = some (some v) → n0 ≤ v) :
    Inn (Sg (g ++ [(a : Int)])) m a d n0 L 0 L n0 := by
  have hpl := (h.sound p n0 h1).2
  refine ⟨h.len, by simp, by rw [hpl]; exact h1, by omega, h.sound, .refl L, fun i _ => rfl, fun i v hi hv => ?_, by rw [hpl]; exact h1, fun j hj => by omega⟩
  have hi2 : i < m := by
    have := (List.getElem?_eq_some_iff.mp hv).1
    have := h.len
    omega
  refine h2 i v hi2 ?_ hv
  have h3 := pl_mod R.m0 R.dm n0
  rw [hpl] at h3
  have h4 : (d : Int) ∣ (i : Int) - (p : Int) := by
    have e : (i : Int) - p = (i - n0) - (p - n0) := by omega
    rw [e]
    exact Int.dvd_sub hi h3
  have h5 : (i : Int) % d = (p : Int) % d := Int.emod_eq_emod_iff_emod_sub_eq_zero.mpr (Int.emod_eq_zero_of_dvd h4)
  rw [← hf]
  exact_mod_cast h5
theorem Cls.next {g : List Int} {m a d c f : Nat} {L0 L L' : Tab} {n0 u : Int} (R : Rnd m a d c) (h : Cls g m a d L0 f L) (hn : (pl m n0) % d = f) (I : Inn (Sg (g ++ [(a : Int)])) m a d n0 L c L' u) : Cls g m a d L0 (f + 1) L' := by
  have cls : ∀ i : Nat, i < m → ((d : Int) ∣ (i : Int) - n0 ↔ i % d = f) := fun i hi => by
    have h3 := pl_mod R.m0 R.dm n0
    constructor
    · intro q
      have h4 : (d : Int) ∣ (i : Int) - (pl m n0 : Nat) := by
        have e : (i : Int) - (pl m n0 : Nat) = (i - n0) - ((pl m n0 : Nat) - n0) := by omega
        rw [e]
        exact Int.dvd_sub q h3
      have h5 : (i : Int) % d = ((pl m n0 : Nat) : Int) % d := Int.emod_eq_emod_iff_emod_sub_eq_zero.mpr (Int.emod_eq_zero_of_dvd h4)
      rw [← hn]
      exact_mod_cast h5
    · intro q
      have h5 : (i : Int) % d = ((pl m n0 : Nat) : Int) % d := by exact_mod_cast q.trans hn.symm
      have h6 := Int.dvd_of_emod_eq_zero (Int.emod_eq_emod_iff_emod_sub_eq_zero.mp h5)
      have e : (i : Int) - n0 = (i - (pl m n0 : Nat)) + ((pl m n0 : Nat) - n0) := by omega
      rw [e]
      exact Int.dvd_add h6 h3
  refine ⟨I.len, I.sound, h.le.trans I.le, fun i hi hf => ?_⟩
  by_cases e : i % d = f
  · exact I.closed R i hi ((cls i hi).mpr e)
  · intro v hv
    have hni : ¬ (d : Int) ∣ (i : Int) - n0 := fun q => e ((cls i hi).mp q)
    rw [I.away i hni] at hv
    have h7 := h.clo i hi (by omega) v hv
    exact h7.low I.le
theorem tab_start {m : Nat} (hm : 0 < m) : TabS [] m ((List.replicate m none).set 0 (some 0)) := by
  refine ⟨by simp, fun i v h => ?_, fun s q => ?_⟩
  · rw [List.getElem?_set] at h
    split at h
    · rename_i e
      subst e
      simp [hm] at h
      subst h
      exact ⟨.zero, by simp [pl]⟩
    · rw [List.getElem?_replicate] at h
      split at h <;> simp at h
  · rw [sg_nil] at q
    subst q
    exact ⟨0, by simp [pl, hm], by omega⟩
/-- membership told by the table -/
def holds (m : Nat) (L : Tab) (n : Int) : Bool := match L[pl m n]? with
  | some (some v) => decide (v ≤ n)
  | _ => false
theorem TabS.holds {g : List Int} {m : Nat} {L : Tab} (h : TabS g m L) (hm : 0 < m) (hg : Sg g m) {n : Int} (hn : 0 ≤ n) : holds m L n = true ↔ Sg g n := by
  unfold NM.holds
  constructor
  · intro q
    split at q
    · rename_i v hv
      have hle := of_decide_eq_true q
      obtain ⟨h1, h2⟩ := h.sound _ _ hv
      obtain ⟨k, hk⟩ := (pl_eq hm).mp h2.symm
      have hk0 : 0 ≤ k := by
        refine Int.not_lt.mp fun hneg => ?_
        have : (m : Int) * k < 0 := Int.mul_neg_of_pos_of_neg (by omega) hneg
        omega
      obtain ⟨j, rfl⟩ := Int.eq_ofNat_of_zero_le hk0
      have e : n = v + (j : Nat) * (m : Int) := by rw [Int.mul_comm]; omega
      rw [e]
      exact h1.plus (hg.mul j)
    · cases q
  · intro q
    obtain ⟨v, h1, h2⟩ := h.has n q
    rw [h1]
    exact decide_eq_true h2
end NM

/-! properties and isinstance of an own class. -/
namespace Z
open PySem PySem.Spec PyProof.Rows L2
section
variable {P : Program} {w : World} {K : PySem.W.Frag} {mg : Str → Option Value} {base : Heap}
/-- a property f of C that gives the field fld -/
structure Prp (P : Program) (w : World) (K : PySem.W.Frag) (mg : Str → Option Value) (base : Heap) (k : Nat) (C : Addr) (f fld : Str) : Prop where
  ex : ∃ p g fd, Cls K C ∧ PropOf K C f p g ∧ Binds K fd ["self"] [] ∧ FnOk P w K mg base (L2.CX P w) k g fd ["self"] (getSp C fld)
theorem pe_prp {X : Cx} {k j : Nat} {C : Addr} {f fld : Str} {e : Expr} {ta : TE} {pos : Pos} (c : Prp X.prog X.w X.K X.mg X.base k C f fld) (hr : Room j X.A) (hkj : k + 1 ≤ j) (he : PE X e ta) (hab : attributeBase e f X.env (eval e X.env) = eval e X.env := by rfl) :
    PE X (.Attribute e f pos) (tProp C (getSp C fld) [] E0 ta) := by
  obtain ⟨p, g, fd, hc, hp, hb, F⟩ := c.ex
  exact pe_prop he hc hp F (hr.mono hkj) hb .nil passL hab
/-- what isinstance asks of a class -/
structure IsC (K : PySem.W.Frag) (C : Addr) : Prop where
  c : PySem.W.findIn K (.ref C) "__class__" = some (some (.builtin "object.__class__"))
  g : PySem.W.specialIn K (.builtin "object.__class__") "__get__" = some (some (.builtin "getset_descriptor.__get__"))
  t : PySem.W.takesIn K (.builtin "object.__class__") = some true
  o : PySem.W.mroIn K C (.type "object") = some true
theorem isi_own {C a dx : Addr} {fs : List (Str × V)} {H : Hp} {Q : VK} (hc : Cls K C) (i : IsC K C) (h : H a = some (.ins C dx fs)) (q : Q (.bl true) H) : rIsi K [.ref a, .ref C] H Q :=
  ⟨.ref a, .ref C, .ref C, .ref C, true, rfl, .own C, .base (.ins h hc i.c i.g i.t i.o), by unfold PySem.W.kitOne; simp, q⟩
end
end Z

namespace Z
open PySem PySem.Spec PyProof.Rows L2
theorem bitAnd_nat (a b : Nat) : Builtin.bitAnd (a : Int) (b : Int) = ((a &&& b : Nat) : Int) := by
  unfold Builtin.bitAnd
  rw [decide_eq_true (Int.natCast_nonneg a), decide_eq_true (Int.natCast_nonneg b)]
  rfl
theorem bitNot_eq (x : Int) : Builtin.bitNot x = -x - 1 := rfl
theorem bitOr_nat (a b : Nat) : Builtin.bitOr (a : Int) (b : Int) = ((a ||| b : Nat) : Int) := by
  unfold Builtin.bitOr Builtin.bitAnd
  have h : ∀ c : Nat, ¬ (0 : Int) ≤ Builtin.bitNot (c : Int) := fun c => by rw [bitNot_eq]; omega
  rw [decide_eq_false (h a), decide_eq_false (h b)]
  have e : ∀ c : Nat, Builtin.bitNot (Builtin.bitNot (c : Int)) = c := fun c => by rw [bitNot_eq, bitNot_eq]; omega
  simp only [e]
  rfl
theorem shr_nat (N n : Nat) : (N : Int) / 2 ^ (n : Int).toNat = ((N >>> n : Nat) : Int) := by
  rw [Int.toNat_natCast, Nat.shiftRight_eq_div_pow]
  simp
theorem shl_nat (N n : Nat) : (N : Int) * 2 ^ (n : Int).toNat = ((N <<< n : Nat) : Int) := by
  rw [Int.toNat_natCast, Nat.shiftLeft_eq]
  simp
theorem bit_is (N n : Nat) : decide (Builtin.bitAnd ((N : Int) / 2 ^ (n : Int).toNat) 1 = 1) = N.testBit n := by
  rw [shr_nat, show (1 : Int) = ((1 : Nat) : Int) from rfl, bitAnd_nat, Nat.and_one_is_mod]
  unfold Nat.testBit
  rw [Nat.and_comm, Nat.and_one_is_mod]
  rcases Nat.mod_two_eq_zero_or_one (N >>> n) with h | h <;> rw [h] <;> decide
theorem mask_nat (N k : Nat) : Builtin.bitAnd (N : Int) ((2 ^ k - 1 : Nat) : Int) = ((N % 2 ^ k : Nat) : Int) := by
  rw [bitAnd_nat, Nat.and_two_pow_sub_one_eq_mod]
end Z

namespace NM
theorem step_in {g l : List Int} {n : Int} (h : ∀ s, Sg g s ↔ Sg l s) (hn : Sg g n) : ∀ s, Sg g s ↔ Sg (l ++ [n]) s := fun s => by
  constructor
  · intro q
    exact ((h s).mp q).up fun a ha => List.mem_append_left _ ha
  · intro q
    refine q.sub fun a ha => ?_
    rcases List.mem_append.mp ha with ha | ha
    · exact (h a).mpr (.mem ha)
    · rw [List.mem_singleton] at ha
      rw [ha]
      exact hn
theorem step_out {g l : List Int} {n : Int} (h : ∀ s, Sg g s ↔ Sg l s) : ∀ s, Sg (g ++ [n]) s ↔ Sg (l ++ [n]) s := fun s => by
  constructor
  · intro q
    refine q.sub fun a ha => ?_
    rcases List.mem_append.mp ha with ha | ha
    · exact ((h a).mp (.mem ha)).up fun a ha => List.mem_append_left _ ha
    · exact .mem (List.mem_append_right _ ha)
  · intro q
    refine q.sub fun a ha => ?_
    rcases List.mem_append.mp ha with ha | ha
    · exact ((h a).mpr (.mem ha)).up fun a ha => List.mem_append_left _ ha
    · exact .mem (List.mem_append_right _ ha)
theorem take_snoc {l : List Int} {i : Nat} {n : Int} (h : l[i]? = some n) : l.take (i + 1) = l.take i ++ [n] := by
  rw [List.take_add_one, h]
  rfl
/-- what the loop of the least numbers keeps -/
structure Found (ms : List Int) (i : Nat) (g : List Int) : Prop where
  least : Least g
  sub : ∀ a ∈ g, a ∈ ms.take i
  same : ∀ s, Sg g s ↔ Sg (ms.take i) s
theorem Found.start (ms : List Int) : Found ms 0 [] := ⟨least_nil, fun a h => by simp at h, fun s => by simp⟩
theorem Found.in_ {ms g : List Int} {i : Nat} {n : Int} (F : Found ms i g) (h : ms[i]? = some n) (hn : Sg g n) : Found ms (i + 1) g where
  least := F.least
  sub a ha := by
    rw [take_snoc h]
    exact List.mem_append_left _ (F.sub a ha)
  same := by
    rw [take_snoc h]
    exact step_in F.same hn
theorem Found.out {ms g : List Int} {i : Nat} {n : Int} (F : Found ms i g) (asc : ms.Pairwise (· < ·)) (hp : 0 < n) (h : ms[i]? = some n) (hn : ¬ Sg g n) : Found ms (i + 1) (g ++ [n]) where
  least := F.least.snoc hp (fun b hb => by
    have h1 := F.sub b hb
    obtain ⟨j, hj⟩ := List.getElem?_of_mem h1
    have hji : j < i := by
      have := (List.getElem?_eq_some_iff.mp hj).1
      rw [List.length_take] at this
      omega
    rw [List.getElem?_take_of_lt hji] at hj
    obtain ⟨q1, q2⟩ := List.getElem?_eq_some_iff.mp hj
    obtain ⟨q3, q4⟩ := List.getElem?_eq_some_iff.mp h
    have := List.pairwise_iff_getElem.mp asc j i q1 q3 hji
    omega) hn
  sub a ha := by
    rw [take_snoc h]
    rcases List.mem_append.mp ha with ha | ha
    · exact List.mem_append_left _ (F.sub a ha)
    · exact List.mem_append_right _ ha
  same := by
    rw [take_snoc h]
    exact step_out F.same
theorem Found.done {ms g : List Int} (F : Found ms ms.length g) : Least g ∧ (∀ a ∈ g, a ∈ ms) ∧ ∀ s, Sg g s ↔ Sg ms s := by
  have e : ms.take ms.length = ms := List.take_length
  have h1 := F.sub
  have h2 := F.same
  rw [e] at h1 h2
  exact ⟨F.least, h1, h2⟩
theorem same_of_mem {a b : List Int} (h : ∀ k, k ∈ a ↔ k ∈ b) : ∀ s, Sg a s ↔ Sg b s := fun s => ⟨fun q => q.up fun k hk => (h k).mp hk, fun q => q.up fun k hk => (h k).mpr hk⟩
/-- membership, as a Bool -/
noncomputable def mem (g : List Int) (n : Int) : Bool := @decide (Sg g n) (Classical.propDecidable _)
theorem mem_iff {g : List Int} {n : Int} : mem g n = true ↔ Sg g n := by
  unfold mem
  exact @decide_eq_true_iff _ (Classical.propDecidable _)
theorem mem_same {g k : List Int} (h : ∀ s, Sg g s ↔ Sg k s) (n : Int) : mem g n = mem k n := by
  rw [Bool.eq_iff_iff, mem_iff, mem_iff, h n]
end NM

namespace Z
open PySem PySem.Spec PyProof.Rows L2
section
variable {K : PySem.W.Frag} {g : TG} {tb : TS} {tl : TE} {ta : TA} {Dn : Ends} {σ : L2.St} {H : Hp}
/-- for x in l, l a list that the expression makes -/
theorem forLn (C : Addr → List V → Hp → Prop) (ht : ∀ R : VK, (∀ p xs H1, C p xs H1 → R (.ref p) H1) → tl σ H R) (hS : ∀ p xs H1, C p xs H1 → SqL K H1 p xs) (Pv : Addr → List V → Nat → L2.St → Hp → Prop) (h0 : ∀ p xs H1, C p xs H1 → Pv p xs 0 σ H1)
    (hG : ∀ p xs i σ' H', Pv p xs i σ' H' → SqL K H' p xs)
    (hs : ∀ p xs (i : Nat) (x : V) σ' H', xs[i]? = some x → Pv p xs i σ' H' → g x σ' H' fun σ2 H2 => tb { Dn with nx := Pv p xs (i + 1), ct := Pv p xs (i + 1), bk := Dn.nx } σ2 H2)
    (hd : ∀ p xs σ' H', Pv p xs xs.length σ' H' → Dn.nx σ' H') : tFor (iList K tl) g tb Dn σ H :=
  ht _ fun p xs H1 c => ⟨p, rfl, ⟨xs, hS p xs H1 c⟩, for_list (Pv p xs) (h0 p xs H1 c) (fun i σ' H' _ q => hG p xs i σ' H' q) (fun i x σ' H' hx q => hs p xs i x σ' H' hx q) (hd p xs)⟩
end
theorem map_get {α β : Type} {f : α → β} {l : List α} {i : Nat} {y : β} (h : (l.map f)[i]? = some y) : ∃ x, l[i]? = some x ∧ y = f x := by
  rw [List.getElem?_map] at h
  cases e : l[i]? with
  | none =>
    rw [e] at h
    cases h
  | some x =>
    rw [e] at h
    cases h
    exact ⟨x, rfl, rfl⟩
end Z

namespace Z
open PySem PySem.Spec PyProof.Rows L2
section
variable {K : PySem.W.Frag} {H : Hp}
theorem dp_ints (ss : List Int) : DpAll K H (ss.map V.int) (ss.map PyData.int) := by
  induction ss with
  | nil => exact .nil
  | cons s ss ih => exact .cons (.int s) ih
end
theorem eqv_ints : ∀ ss ts : List Int, PyData.eqvAll (ss.map PyData.int) (ts.map PyData.int) = decide (ss = ts)
  | [], [] => rfl
  | [], _ :: _ => rfl
  | _ :: _, [] => rfl
  | s :: ss, t :: ts => by
    show (PyData.eqv (.int s) (.int t) && PyData.eqvAll (ss.map PyData.int) (ts.map PyData.int)) = _
    rw [eqv_ints ss ts]
    have e : PyData.eqv (.int s) (.int t) = decide (s = t) := by
      show (s == t) = decide (s = t)
      rfl
    rw [e, Bool.eq_iff_iff]
    simp
theorem lay_ints (ss : List Int) : PyData.canLayAll0 (ss.map PyData.int) = true := by
  induction ss with
  | nil => rfl
  | cons s ss ih =>
    show (PyData.canLay0 (.int s) && PyData.canLayAll0 (ss.map PyData.int)) = true
    rw [ih]
    rfl
theorem depth_ints : ∀ ss : List Int, PyData.depthAll (ss.map PyData.int) = 0
  | [] => rfl
  | s :: ss => by
    show Nat.max (PyData.depth (.int s)) (PyData.depthAll (ss.map PyData.int)) = 0
    rw [depth_ints ss]
    rfl
theorem shaped_ints (ss : List Int) : SeqAt.shaped (.tuple (ss.map PyData.int)) = true := by
  show (PyData.canLayAll0 (ss.map PyData.int) && decide (PyData.depthAll (ss.map PyData.int) + 1 ≤ 64)) = true
  rw [lay_ints, depth_ints]
  rfl
theorem shaped_intsL (ss : List Int) : SeqAt.shaped (.list (ss.map PyData.int)) = true := by
  show (PyData.canLayAll0 (ss.map PyData.int) && decide (PyData.depthAll (ss.map PyData.int) + 1 ≤ 64)) = true
  rw [lay_ints, depth_ints]
  rfl
theorem inV_ints (n : Int) (ss : List Int) : inV (.int n) (ss.map V.int) = decide (n ∈ ss) := by
  unfold inV
  rw [List.any_map, Bool.eq_iff_iff, List.any_eq_true, decide_eq_true_eq]
  constructor
  · rintro ⟨x, h1, h2⟩
    have : x = n := by simpa [eqV] using h2
    rw [← this]
    exact h1
  · intro h
    exact ⟨n, h, by simp [eqV]⟩
theorem flat_ints (ss : List Int) : (ss.map V.int).all flatV = true := by
  rw [List.all_map, List.all_eq_true]
  intro x _
  rfl
section
variable {K : PySem.W.Frag} {g : TG} {te tl : TE} {vs : List Nat} {σ : L2.St} {H : Hp} {Q : VK} {a : Addr} {xs : List V}
/-- [x for x in t if t] -/
theorem lcFiltT {tt : TT} {j : Nat} (ht : ∀ R : VK, R (.ref a) H → tl σ H R) (hS : SqT K H a xs) (hn : xs.length ≤ 90000) (hj : j < σ.length) (p : V → Bool)
    (hs : ∀ (x : V) (H' : Hp) (F : Bool → Hp → Prop), x ∈ xs → Ex H H' → (∀ H3, Ex H' H3 → F (p x) H3) → tt ((wipe σ [j]).set j (some x)) H' F)
    (k : ∀ D H', H D = none → Ex H H' → H' D = some (.lst (xs.filter p)) → Q (.ref D) H') : tLc (iTup K tl) (gName j) tt (tVar j) [j] σ H Q := by
  refine ht _ ⟨a, rfl, ⟨xs, hS⟩, fun D hD => lc_it walk_tup (fun i H' => Ex H H' ∧ H' D = some (.lst ((xs.take i).filter p))) ⟨.new hD, upd_same⟩ (fun i H' _ q => q.1.seqT hS) ?_ ?_⟩
  · rintro i x H' H'' hi ⟨q1, q2⟩ ⟨e, hx⟩
    subst e
    have hjl : j < (wipe σ [j]).length := by
      rw [wipe_length]
      exact hj
    refine ⟨?_, ?_⟩
    · show ((wipe σ []).set j none |>.set j (some x)).set j none = (wipe σ []).set j none
      rw [List.set_set, List.set_set]
    · have et : xs.take (i + 1) = xs.take i ++ [x] := by
        rw [List.take_add_one, hx]
        rfl
      refine hs x _ _ (List.mem_of_getElem? hx) q1 fun H3 e3 => ?_
      have e4 := e3.get q2
      cases hp : p x
      · refine iteF ⟨q1.trans e3, ?_⟩
        rw [et, List.filter_append, List.filter_cons, hp]
        simpa using e4
      · refine iteT ⟨x, List.getElem?_set_self hjl, _, e4, smallt ?_, (q1.trans e3).put e4 (.inl hD), ?_⟩
        · have h1 := List.length_filter_le p (xs.take i)
          rw [List.length_take] at h1
          omega
        · rw [upd_same, et, List.filter_append, List.filter_cons, hp]
          rfl
  · rintro H' ⟨q1, q2⟩
    rw [List.take_length] at q2
    exact k D H' hD q1 q2
end
end Z

namespace NM
theorem sg_rec {g : List Int} (hp : Pos g) {n : Int} (hn : 0 < n) : Sg g n ↔ ∃ a ∈ g, a ≤ n ∧ Sg g (n - a) := by
  constructor
  · intro q
    cases q with
    | zero => omega
    | @add a s ha hs =>
      have := Sg.nonneg hp hs
      refine ⟨a, ha, by omega, ?_⟩
      have e : a + s - a = s := by omega
      rw [e]
      exact hs
  · rintro ⟨a, ha, h1, h2⟩
    have := Sg.add ha h2
    have e : a + (n - a) = n := by omega
    rwa [e] at this
theorem mem_rec {g : List Int} (hp : Pos g) {n : Int} (hn : 0 < n) : mem g n = (g.filter fun a => decide (a ≤ n)).any fun a => mem g (n - a) := by
  rw [Bool.eq_iff_iff, mem_iff, sg_rec hp hn, List.any_eq_true]
  constructor
  · rintro ⟨a, h1, h2, h3⟩
    exact ⟨a, List.mem_filter.mpr ⟨h1, decide_eq_true h2⟩, mem_iff.mpr h3⟩
  · rintro ⟨a, h1, h2⟩
    obtain ⟨h3, h4⟩ := List.mem_filter.mp h1
    exact ⟨a, h3, of_decide_eq_true h4, mem_iff.mp h2⟩
theorem mem_zero (g : List Int) : mem g 0 = true := mem_iff.mpr .zero
theorem mem_neg {g : List Int} (hp : Pos g) {n : Int} (hn : n < 0) : mem g n = false := by
  cases h : mem g n with
  | false => rfl
  | true =>
    have := Sg.nonneg hp (mem_iff.mp h)
    omega
/-- all by a common divisor -/
theorem sg_div {ns : List Int} {d : Int} (hd : 0 < d) (h : ∀ n ∈ ns, d ∣ n) {k : Int} : Sg (ns.map (· / d)) k ↔ Sg ns (k * d) := by
  constructor
  · intro q
    induction q with
    | zero => simpa using Sg.zero
    | @add a s ha hs ih =>
      obtain ⟨n, hn, rfl⟩ := List.mem_map.mp ha
      rw [Int.add_mul, Int.ediv_mul_cancel (h n hn)]
      exact .add hn ih
  · intro q
    have key : ∀ s, Sg ns s → Sg (ns.map (· / d)) (s / d) := fun s q => by
      induction q with
      | zero => simpa using Sg.zero
      | @add a s ha hs ih =>
        rw [Int.add_ediv_of_dvd_left (h a ha)]
        exact .add (List.mem_map.mpr ⟨a, ha, rfl⟩) ih
    have := key _ q
    rwa [Int.mul_ediv_cancel _ (by omega)] at this
theorem sg_dvd {ns : List Int} {d : Int} (h : ∀ n ∈ ns, d ∣ n) {s : Int} (q : Sg ns s) : d ∣ s := by
  induction q with
  | zero => exact Int.dvd_zero d
  | add ha _ ih => exact Int.dvd_add (h _ ha) ih
end NM

namespace Z
open PySem PySem.Spec PyProof.Rows L2
section
variable {K : PySem.W.Frag} {g : TG} {te tl : TE} {tb : TS} {ta : TA} {tt : TT} {Dn : Ends} {vs : List Nat} {σ : L2.St} {H : Hp} {Q : VK} {a : Addr} {xs : List V}
/-- for i in range(lo, hi) -/
theorem forR2 {lo : Int} {n : Nat} (ht : ∀ R : List V → Hp → Prop, R [.int lo, .int (lo + n)] H → ta σ H R) (hlo : -1000000 ≤ lo ∧ lo ≤ 1000000) (hn : n ≤ 100000) (Pv : Nat → L2.St → Hp → Prop) (h0 : Pv 0 σ H)
    (hs : ∀ (i : Nat) σ' H', i < n → Pv i σ' H' → g (.int (lo + i)) σ' H' fun σ2 H2 => tb { Dn with nx := Pv (i + 1), ct := Pv (i + 1), bk := Dn.nx } σ2 H2)
    (hd : ∀ σ' H', Pv n σ' H' → Dn.nx σ' H') : tFor (iRng2 ta) g tb Dn σ H :=
  ht _ ⟨lo, lo + n, rfl, ⟨by omega, by omega, by omega, by omega⟩, by
    have e : (lo + n - lo).toNat = n := by omega
    rw [e]
    exact for_range (lo := lo) (n := n) Pv h0 (fun i σ' H' hi p => hs i σ' H' hi p) hd⟩
/-- [f x for x in l if p x], over a walk of a list or a tuple -/
theorem lcFM_all {J : It} {j : Nat} {G : Hp → Prop} (w : Walk J xs.length G (YAt xs)) (hG : ∀ H', Ex H H' → G H') (hn : xs.length ≤ 90000) (hj : j < σ.length) (p : V → Bool) (f : V → V)
    (hs : ∀ (x : V) (H' : Hp) (F : Bool → Hp → Prop), x ∈ xs → Ex H H' → (∀ H3, Ex H' H3 → F (p x) H3) → tt ((wipe σ [j]).set j (some x)) H' F)
    (he : ∀ (x : V) (H' : Hp) (Q' : VK), x ∈ xs → p x = true → Ex H H' → (∀ H3, Ex H' H3 → Q' (f x) H3) → te ((wipe σ [j]).set j (some x)) H' Q')
    (k : ∀ D H', H D = none → Ex H H' → H' D = some (.lst ((xs.filter p).map f)) → Q (.ref D) H') : ∀ D, H D = none → ∃ W : Nat → Nat → Hp → Prop, (∃ m, W 0 m (upd H D (.lst []))) ∧ ∀ i m H, W i m H →
      (J.stop i H ∧ Q (.ref D) H) ∨ (J.go i H ∧ ∃ Nx : Hp → Prop, (∀ H', Nx H' → ∃ m', m' < m ∧ W (i + 1) m' H') ∧ ∀ x H', J.yld i H x H' → gName j x (wipe σ [j]) H' fun σ2 H2 => wipe σ2 [j] = wipe σ [j] ∧ tt σ2 H2 fun b H3 =>
        if b = true then te σ2 H3 fun y H4 => ∃ acc, H4 D = some (.lst acc) ∧ acc.length < sizeLine ∧ Nx (upd H4 D (.lst (acc ++ [y]))) else Nx H3) := fun D hD => by
  refine lc_it w (fun i H' => Ex H H' ∧ H' D = some (.lst (((xs.take i).filter p).map f))) ⟨.new hD, upd_same⟩ (fun i H' _ q => hG H' q.1) ?_ ?_
  · rintro i x H' H'' hi ⟨q1, q2⟩ ⟨e, hx⟩
    subst e
    have hjl : j < (wipe σ [j]).length := by
      rw [wipe_length]
      exact hj
    refine ⟨?_, ?_⟩
    · show ((wipe σ []).set j none |>.set j (some x)).set j none = (wipe σ []).set j none
      rw [List.set_set, List.set_set]
    · have et : xs.take (i + 1) = xs.take i ++ [x] := by
        rw [List.take_add_one, hx]
        rfl
      have hm := List.mem_of_getElem? hx
      refine hs x _ _ hm q1 fun H3 e3 => ?_
      have e4 := e3.get q2
      cases hp : p x
      · refine iteF ⟨q1.trans e3, ?_⟩
        rw [et, List.filter_append, List.filter_cons, hp]
        simpa using e4
      · refine iteT (he x H3 _ hm hp (q1.trans e3) fun H4 e5 => ?_)
        have e6 := e5.get e4
        refine ⟨_, e6, smallt ?_, ((q1.trans e3).trans e5).put e6 (.inl hD), ?_⟩
        · have h1 := List.length_filter_le p (xs.take i)
          rw [List.length_take] at h1
          rw [List.length_map]
          omega
        · rw [upd_same, et, List.filter_append, List.filter_cons, hp]
          simp
  · rintro H' ⟨q1, q2⟩
    rw [List.take_length] at q2
    exact k D H' hD q1 q2
theorem lcFML {j : Nat} (ht : ∀ R : VK, R (.ref a) H → tl σ H R) (hS : SqL K H a xs) (hn : xs.length ≤ 90000) (hj : j < σ.length) (p : V → Bool) (f : V → V)
    (hs : ∀ (x : V) (H' : Hp) (F : Bool → Hp → Prop), x ∈ xs → Ex H H' → (∀ H3, Ex H' H3 → F (p x) H3) → tt ((wipe σ [j]).set j (some x)) H' F)
    (he : ∀ (x : V) (H' : Hp) (Q' : VK), x ∈ xs → p x = true → Ex H H' → (∀ H3, Ex H' H3 → Q' (f x) H3) → te ((wipe σ [j]).set j (some x)) H' Q')
    (k : ∀ D H', H D = none → Ex H H' → H' D = some (.lst ((xs.filter p).map f)) → Q (.ref D) H') : tLc (iList K tl) (gName j) tt te [j] σ H Q :=
  ht _ ⟨a, rfl, ⟨xs, hS⟩, lcFM_all walk_list (fun H' e => e.seqL hS id) hn hj p f hs he k⟩
theorem lcFMT {j : Nat} (ht : ∀ R : VK, R (.ref a) H → tl σ H R) (hS : SqT K H a xs) (hn : xs.length ≤ 90000) (hj : j < σ.length) (p : V → Bool) (f : V → V)
    (hs : ∀ (x : V) (H' : Hp) (F : Bool → Hp → Prop), x ∈ xs → Ex H H' → (∀ H3, Ex H' H3 → F (p x) H3) → tt ((wipe σ [j]).set j (some x)) H' F)
    (he : ∀ (x : V) (H' : Hp) (Q' : VK), x ∈ xs → p x = true → Ex H H' → (∀ H3, Ex H' H3 → Q' (f x) H3) → te ((wipe σ [j]).set j (some x)) H' Q')
    (k : ∀ D H', H D = none → Ex H H' → H' D = some (.lst ((xs.filter p).map f)) → Q (.ref D) H') : tLc (iTup K tl) (gName j) tt te [j] σ H Q :=
  ht _ ⟨a, rfl, ⟨xs, hS⟩, lcFM_all walk_tup (fun H' e => e.seqT hS) hn hj p f hs he k⟩
/-- [.. for i in range(lo, lo + n)] of known values -/
theorem lcR2f (lo : Int) (n : Nat) (ht : ∀ R : List V → Hp → Prop, R [.int lo, .int (lo + n)] H → ta σ H R) (hlo : -1000000 ≤ lo ∧ lo ≤ 1000000) (hn : n ≤ 90000) (zs : List V) (hz : zs.length = n)
    (hs : ∀ (i : Nat) (z : V) (H' : Hp) (Q' : VK), zs[i]? = some z → Ex H H' → (∀ H3, Ex H' H3 → Q' z H3) → g (.int (lo + (i : Int))) (wipe σ vs) H' fun σ2 H2 => wipe σ2 vs = wipe σ vs ∧ te σ2 H2 Q')
    (k : ∀ D H', H D = none → Ex H H' → H' D = some (.lst zs) → Q (.ref D) H') : tLc (iRng2 ta) g tYes te vs σ H Q := by
  refine ht _ ⟨lo, lo + n, rfl, ⟨by omega, by omega, by omega, by omega⟩, ?_⟩
  have e : (lo + n - lo).toNat = n := by omega
  rw [e]
  refine lc_all (H := H) (walk_range (lo := lo) (n := n)) nob (fun _ => True) (fun i y _ => zs[i]? = some y) hn (fun _ _ => trivial) (fun _ q => q.elim) trivial (fun _ _ _ _ _ _ => trivial) (fun _ _ _ _ q _ => q) (fun i x H' H'' Q' hi g1 g2 ⟨e, hx⟩ q => ?_) fun D ys H' hD e _ h1 h2 h3 => ?_
  · subst e
    rw [hx]
    exact hs i zs[i] _ Q' (List.getElem?_eq_getElem (by omega)) g1 fun H3 e3 => q _ H3 e3 trivial (List.getElem?_eq_getElem (by omega))
  · rw [ext_of (h2.trans hz.symm) h3] at h1
    exact k D H' hD e h1
end
end Z

/-! defs that are called where no repr is under way; repr of data. -/
namespace Z
open PySem PySem.Spec PyProof.Rows L2
theorem cx_no {P : Program} {w : World} {outer : List Env} {H : Hp} {s s' : Shared} {e : Value} (z : L2.CX P w outer H s E0 e s') : False := by
  obtain ⟨_, _, _, _, _, _, _, _, _, _, _, _, z⟩ := z
  exact z
/-- a promise kept where nothing is being shown -/
structure FnG (P : Program) (w : World) (K : PySem.W.Frag) (mg : Str → Option Value) (base : Heap) (k : Nat) (f : Addr) (fd : FuncData) (ps : List Str) (sp : Sp) : Prop where
  len : ∀ vs H Q E, sp vs H Q E → vs.length = ps.length
  run : ∀ (A : Around) (outer : List Env) (s : Shared) (H : Hp) (args : Args) (us : List Value) (vs : List V) (Q : VK) (E : XK), A.guards = some [] → Room k A → Env0 P w K mg base A outer s H → BindsTo s fd args (ps.zip us) → Vals vs us → sp vs H Q E →
    codeAny (model P w) A (.call (.ref f) args) (CR (L2.CX P w) outer P w H s Q E) s
structure CalG (P : Program) (w : World) (K : PySem.W.Frag) (mg : Str → Option Value) (base : Heap) (k : Nat) (x : Str) (ps : List Str) (sp : Sp) : Prop where
  ex : ∃ f fd, mg x = some (.ref f) ∧ PySem.W.keepIn K (.ref f) = true ∧ Binds K fd ps [] ∧ FnG P w K mg base k f fd ps sp
abbrev BodyG (P : Program) (w : World) (K : PySem.W.Frag) (mg : Str → Option Value) (base : Heap) (k : Nat) (q : Str) (N : List Str) (st : Stmt) (sp : Sp) : Prop :=
  ∀ (f : Addr) (cdv : Value) (A : Around) (outer : List Env) (s : Shared) (H : Hp) (vs : List V) (Q : VK) (E : XK), A.guards = some [] → Room k (A.deeper (envOfC q (defScope st) s.heap.objs.size f cdv)) → sp vs H Q E →
    ∃ t, PSs (cxOf (L2.CX P w) P w K mg base N q (defScope st) f cdv A outer s H E).nox (defBody st) t ∧ t { nx := fun _ H' => Q .non H', rt := Q } (start N vs) H
abbrev BodyGX (P : Program) (w : World) (K : PySem.W.Frag) (mg : Str → Option Value) (base : Heap) (k : Nat) (q : Str) (N : List Str) (st : Stmt) (sp : Sp) : Prop :=
  ∀ (f : Addr) (cdv : Value) (A : Around) (outer : List Env) (s : Shared) (H : Hp) (vs : List V) (Q : VK) (E : XK), A.guards = some [] → Room k (A.deeper (envOfC q (defScope st) s.heap.objs.size f cdv)) → sp vs H Q E →
    ∃ t, PSs (cxOf (L2.CX P w) P w K mg base N q (defScope st) f cdv A outer s H E) (defBody st) t ∧ t { nx := fun _ H' => Q .non H', rt := Q } (start N vs) H
section
variable {P : Program} {w : World} {K : PySem.W.Frag} {mg : Str → Option Value} {base : Heap}
theorem FunD.okG {x qual : Str} {params : Arguments} {body : List Stmt} {scope : Scope} {f : Addr} {fd : FuncData} {N ps : List Str} {k : Nat} {sp : Sp} (F : FunD K x qual params body scope [] [] f fd) (S : FnScope N ps scope) (len : ∀ vs H Q E, sp vs H Q E → vs.length = ps.length)
    (hbody : ∀ (cdv : Value) (A : Around) (outer : List Env) (s : Shared) (H : Hp) (vs : List V) (Q : VK) (E : XK), A.guards = some [] → Room k (A.deeper (envOfC qual scope s.heap.objs.size f cdv)) → sp vs H Q E →
      ∃ t, PSs (cxOf (L2.CX P w) P w K mg base N qual scope f cdv A outer s H E) body t ∧ t { nx := fun _ H' => Q .non H', rt := Q } (start N vs) H) : FnG P w K mg base (k + 1) f fd ps sp := by
  obtain ⟨oc, od, dV, kV, doc, pm, an, cdv, ct, osl, rfl, lk, hcd, _, _⟩ := F.ex
  refine ⟨len, fun A outer s H args us vs Q E hgd hr e0 hb r hsp => ?_⟩
  exact LamX.run_ofS lk hcd S hr e0 hb r (len _ _ _ _ hsp) fun hr2 => hbody cdv A outer s H vs Q E hgd hr2 hsp
theorem Df.calG {x : Str} {st : Stmt} {N ps : List Str} {k : Nat} {sp : Sp} (D : Df K mg x st) (S : FnScope N ps (defScope st)) (hb : Bnd x x st ps) (len : ∀ vs H Q E, sp vs H Q E → vs.length = ps.length)
    (body : BodyG P w K mg base k x N st sp) : CalG P w K mg base (k + 1) x ps sp := by
  obtain ⟨f, fd, hm, F⟩ := D.ex
  refine ⟨f, fd, hm, F.kp, F.bindsN hb, FunD.okG F S len fun cdv A outer s H vs Q E hgd hr h => ?_⟩
  obtain ⟨t, h1, h2⟩ := body f cdv A outer s H vs Q E hgd hr h
  exact ⟨t, h1.nox, h2⟩
theorem Df.calGX {x : Str} {st : Stmt} {N ps : List Str} {k : Nat} {sp : Sp} (D : Df K mg x st) (S : FnScope N ps (defScope st)) (hb : Bnd x x st ps) (len : ∀ vs H Q E, sp vs H Q E → vs.length = ps.length)
    (body : BodyGX P w K mg base k x N st sp) : CalG P w K mg base (k + 1) x ps sp := by
  obtain ⟨f, fd, hm, F⟩ := D.ex
  exact ⟨f, fd, hm, F.kp, F.bindsN hb, FunD.okG F S len fun cdv A outer s H vs Q E hgd hr h => body f cdv A outer s H vs Q E hgd hr h⟩
end
section
variable {X : Cx} {k j : Nat} {x : Str} {ps : List Str} {sp : Sp} {e : Expr} {es : List Expr} {t : TA} {p pos : Pos}
theorem run_fnG {f : Addr} {fd : FuncData} {pins : List (Addr × Obj)} {s : Shared} {σ : L2.St} {H : Hp} {us : List Value} {vs : List V} {Q : VK} (F : FnG X.prog X.w X.K X.mg X.base k f fd ps sp) (hgd : X.A.guards = some []) (hb : Binds X.K fd ps []) (hr : Room k X.A)
    (I : L2.Inv X pins σ H s) (r : Vals vs us) (q : sp vs H Q E0) : wpAny (model X.prog X.w) X.A (call (.ref f) us) (EP X pins σ Q) X.xe s := by
  have hl : us.length = ps.length := by rw [← r.length]; exact F.len _ _ _ _ q
  have hb2 := hb s us I.kIn (by rw [List.append_nil]; exact hl)
  rw [List.append_nil] at hb2
  refine wpAny_call (codeAny_mono (F.run X.A X.stack s H ⟨us, []⟩ us vs _ E0 hgd hr I.env0 hb2 r q) fun r s' hq => ?_)
  cases r with
  | error er => exact (cx_no hq).elim
  | ok fl =>
    cases fl with
    | ret u => exact I.after hq
    | next => exact False.elim hq
    | brk => exact False.elim hq
    | cont => exact False.elim hq
theorem pe_calG (c : CalG X.prog X.w X.K X.mg X.base k x ps sp) (hgd : X.A.guards = some []) (hr : Room j X.A) (hkj : k ≤ j) (hg : Gl X x) (ha : PA X (e :: es) t) (hdb : (x == ("__debug__" : Str)) = false := by decide)
    (he : starEach (e :: es) X.env = (false, eval e X.env) :: starEach es X.env := by rfl) (hpl : (backTo pos (starEach es X.env)).any (·.1) = false := by rfl) : PE X (.Call (.Name x p) (e :: es) [] pos) (tCall sp [] E0 t) := by
  obtain ⟨f, fd, hm, hk, hb, F⟩ := c.ex
  refine ⟨fun pins s σ H Q I h => ?_⟩
  refine wpAny_Call_Name_kw (ld_glob I hg hm ?_ hdb)
  refine PySem.W.callWith_K (h₀ := X.base) I.ok.mod.kin hk (thn (ha.run pos pins s σ H _ I h) fun us s1 ⟨vs, H1, I1, r, q⟩ => ⟨I1.kIn, ?_⟩) he hpl
  have q2 : sp (vs ++ []) H1 Q E0 := q
  rw [List.append_nil] at q2
  exact run_fnG F hgd hb (hr.mono hkj) I1 r q2
end
/-! ### repr of data -/
mutual
theorem dp_nodict {K : PySem.W.Frag} {H : Hp} : ∀ (d : PyData) (v : V), Dp K H v d → d.hasDict = false
  | .none, _, _ => by simp only [PyData.hasDict]
  | .bool _, _, _ => by simp only [PyData.hasDict]
  | .int _, _, _ => by simp only [PyData.hasDict]
  | .str _, _, _ => by simp only [PyData.hasDict]
  | .list xs, _, h => by
    cases h with
    | lst _ h => simp only [PyData.hasDict]; exact dp_nodicts xs _ h
  | .tuple xs, _, h => by
    cases h with
    | tup _ h => simp only [PyData.hasDict]; exact dp_nodicts xs _ h
  | .dict _, _, h => by cases h
theorem dp_nodicts {K : PySem.W.Frag} {H : Hp} : ∀ (ds : List PyData) (vs : List V), DpAll K H vs ds → PyData.hasDictAll ds = false
  | [], _, _ => by simp only [PyData.hasDictAll]
  | d :: ds, _, h => by
    cases h with
    | cons h1 h2 => simp only [PyData.hasDictAll, dp_nodict d _ h1, dp_nodicts ds _ h2, Bool.or_false]
end
/-- what can be shown -/
def Shows (d : PyData) : Prop := d.showable = true ∧ d.depth ≤ 60 ∧ d.shown.length ≤ sizeLine
def rRepr (K : PySem.W.Frag) : List V → Hp → VK → Prop := fun xs H Q => ∃ v d, xs = [v] ∧ Dp K H v d ∧ Shows d ∧ Q (.str d.shown) H
theorem call_repr {X : Cx} (hgd : X.A.guards = some []) (hu : X.A.units + 64 < cLine) : CallR X (.builtin "repr") (rRepr X.K) := by
  intro pins s σ H xs us Q I r h
  obtain ⟨v, d, rfl, hd, ⟨h1, h2, h3⟩, q⟩ := h
  obtain ⟨u, rfl, ru⟩ := vals1 r
  have hn := dp_nodict d v hd
  obtain ⟨as, rd⟩ := Dp.reads I d v u hd ru
  cases hd with
  | non =>
    cases rd
    refine PySem.P.repr_of_none ?_
    simp only [PyData.shown] at q
    exact ⟨.str _, H, I.tok _, ⟨_, rfl⟩, q⟩
  | bl b =>
    cases rd
    refine PySem.P.repr_of_bool ?_
    simp only [PyData.shown] at q
    exact ⟨.str _, H, I.tok _, ⟨_, rfl⟩, q⟩
  | int i =>
    cases rd
    simp only [PyData.showable, decide_eq_true_eq] at h1
    refine PySem.P.repr_of_int h1 ?_
    simp only [PyData.shown] at q
    exact ⟨.str _, H, I.tok _, ⟨_, rfl⟩, q⟩
  | str x =>
    cases rd
    simp only [PyData.shown] at q h3
    exact PySem.P.repr_of_str ⟨.str _, H, I.tok _, ⟨_, rfl⟩, q⟩ h3
  | lst a b =>
    cases ru
    exact repr_of_reads' rd h1 (PyData.noDict_hsm hn) hgd (by omega) (fun _ _ e => e) (fun h' u tk k => ⟨.str _, H, I.kept k, ⟨_, rfl⟩, q⟩) h3
  | tup a b =>
    cases ru
    exact repr_of_reads' rd h1 (PyData.noDict_hsm hn) hgd (by omega) (fun _ _ e => e) (fun h' u tk k => ⟨.str _, H, I.kept k, ⟨_, rfl⟩, q⟩) h3
end Z

/-! defs called in an except suite with the caught error; isinstance and fields of it. -/
namespace Z
open PySem PySem.Spec PyProof.Rows L2
abbrev Pin := Addr × Obj
/-- one call of a def while p's error is handled -/
theorem run_hot {CX : CXT} {P : Program} {w : World} {K : PySem.W.Frag} {mg : Str → Option Value} {base : Heap} {k : Nat} {f : Addr} {name qual : Str} {params : Arguments} {body : List Stmt} {scope : Scope} {dV kV doc pm cdv ct oc : Value} {an od : Option Addr}
    {osl : Array (Option Value)} {N ps : List Str} (lk : K.lookup f = some ⟨oc, od, .func (PySem.W.fnOf name qual params body scope dV kV doc pm an cdv ct), osl⟩) (hcd : PySem.W.codeIn K cdv qual = true) (S : FnScope N ps scope)
    {A : Around} {outer : List Env} {s : Shared} {H : Hp} {args : Args} {us : List Value} {vs : List V} {Q : VK} {E : XK} {p : Pin} (hr : L2H.RoomH (k + 1) A) (hp : L2H.PinOk outer H s p) (e0 : Env0 P w K mg base A outer s H)
    (hb : BindsTo s (PySem.W.fnOf name qual params body scope dV kV doc pm an cdv ct) args (ps.zip us)) (r : Vals vs us) (hl : vs.length = ps.length)
    (hbody : L2H.RoomH k (A.deeper (envOfC qual scope s.heap.objs.size f cdv)) → ∃ t, PSs (L2H.cxH CX P w K mg base N qual scope f cdv A outer s H E p) body t ∧ t { nx := fun _ H' => Q .non H', rt := Q } (L2.start N vs) H) :
    codeAny (model P w) A (.call (.ref f) args) (CR CX outer P w H s Q E) s := by
  have hin : K.In s.heap := e0.mod.kin.keeps fun b o e => (e0.bs b o e).1
  have hlim : s.heap.NoLimit := e0.mod.nolimit.keeps fun b o e => (e0.bs b o e).1
  refine codeAny_call_function hr.depth (hin _ _ lk) rfl S.co S.gen rfl (PySem.W.codeRec_of hin hcd) (hb _ _ _ _ ?_)
  refine wpAny_newFunctionEnv_cells S.kind (fun y hy => ?_) fun env he s1 x => ?_
  · obtain ⟨n, v⟩ := y
    rcases S.par n (List.of_mem_zip hy).1 with q | q
    · exact .inl q
    · exact .inr ⟨q, PySem.W.cellsFrom_some _ _ _ (.inl q)⟩
  · subst he
    refine ⟨hlim.keeps x.toInCall.keep, codeAny_func ?_⟩
    obtain ⟨t, ht, hq⟩ := hbody (hr.deeper _)
    refine wpAny_mono (ht.run [] s1 (L2.start N vs) H _ (L2H.inv_startH S hp e0 hl r x) hq) (fun fl s' hs => ?_) fun e s' hs => hs
    cases fl with
    | ret u =>
      obtain ⟨v, σ', H', J, rv, z⟩ := hs
      exact ⟨v, H', J.os, J.bare, J.base, J.hok, rv, z⟩
    | next =>
      obtain ⟨σ', H', J, z⟩ := hs
      exact ⟨V.non, H', J.os, J.bare, J.base, J.hok, rfl, z⟩
    | brk =>
      obtain ⟨_, _, _, z⟩ := hs
      exact False.elim z
    | cont =>
      obtain ⟨_, _, _, z⟩ := hs
      exact False.elim z
/-- a promise of a def that is called while an error is handled; what it says may speak of the error -/
structure FnE (P : Program) (w : World) (K : PySem.W.Frag) (mg : Str → Option Value) (base : Heap) (k : Nat) (f : Addr) (fd : FuncData) (ps : List Str) (sp : Pin → Sp) : Prop where
  len : ∀ p vs H Q E, sp p vs H Q E → vs.length = ps.length
  run : ∀ (A : Around) (outer : List Env) (s : Shared) (H : Hp) (args : Args) (us : List Value) (vs : List V) (Q : VK) (E : XK) (p : Pin), A.guards = some [] → L2H.RoomH k A → L2H.PinOk outer H s p → Env0 P w K mg base A outer s H → BindsTo s fd args (ps.zip us) → Vals vs us → sp p vs H Q E →
    codeAny (model P w) A (.call (.ref f) args) (CR (L2.CX P w) outer P w H s Q E) s
structure CalE (P : Program) (w : World) (K : PySem.W.Frag) (mg : Str → Option Value) (base : Heap) (k : Nat) (x : Str) (ps : List Str) (sp : Pin → Sp) : Prop where
  ex : ∃ f fd, mg x = some (.ref f) ∧ PySem.W.keepIn K (.ref f) = true ∧ Binds K fd ps [] ∧ FnE P w K mg base k f fd ps sp
abbrev BodyE (P : Program) (w : World) (K : PySem.W.Frag) (mg : Str → Option Value) (base : Heap) (k : Nat) (q : Str) (N : List Str) (st : Stmt) (sp : Pin → Sp) : Prop :=
  ∀ (f : Addr) (cdv : Value) (A : Around) (outer : List Env) (s : Shared) (H : Hp) (vs : List V) (Q : VK) (E : XK) (p : Pin), A.guards = some [] → L2H.RoomH k (A.deeper (envOfC q (defScope st) s.heap.objs.size f cdv)) → sp p vs H Q E →
    ∃ t, PSs (L2H.cxH (L2.CX P w) P w K mg base N q (defScope st) f cdv A outer s H E p).nox (defBody st) t ∧ t { nx := fun _ H' => Q .non H', rt := Q } (L2.start N vs) H
theorem Df.calE {P : Program} {w : World} {K : PySem.W.Frag} {mg : Str → Option Value} {base : Heap} {x : Str} {st : Stmt} {N ps : List Str} {k : Nat} {sp : Pin → Sp} (D : Df K mg x st) (S : FnScope N ps (defScope st)) (hb : Bnd x x st ps) (len : ∀ p vs H Q E, sp p vs H Q E → vs.length = ps.length)
    (body : BodyE P w K mg base k x N st sp) : CalE P w K mg base (k + 1) x ps sp := by
  obtain ⟨f, fd, hm, F⟩ := D.ex
  refine ⟨f, fd, hm, F.kp, F.bindsN hb, len, fun A outer s H args us vs Q E p hgd hr hp e0 hb2 r hsp => ?_⟩
  obtain ⟨oc, od, dV, kV, doc, pm, an, cdv, ct, osl, rfl, lk, hcd, _, _⟩ := F.ex
  refine run_hot lk hcd S hr hp e0 hb2 r (len _ _ _ _ _ hsp) fun hr2 => ?_
  obtain ⟨t, h1, h2⟩ := body f cdv A outer s H vs Q E p hgd hr2 hsp
  exact ⟨t, h1.nox, h2⟩
section
variable {X : Cx} {k j : Nat} {x : Str} {ps : List Str} {sp : Pin → Sp} {e : Expr} {es : List Expr} {t : TA} {q pos : Pos} {p : Pin}
theorem run_fnE {f : Addr} {fd : FuncData} {pins : List (Addr × Obj)} {s : Shared} {σ : L2.St} {H : Hp} {us : List Value} {vs : List V} {Q : VK} (F : FnE X.prog X.w X.K X.mg X.base k f fd ps sp) (hgd : X.A.guards = some []) (hp : p ∈ X.pn) (hb : Binds X.K fd ps []) (hr : L2H.RoomH k X.A)
    (I : L2.Inv X pins σ H s) (r : Vals vs us) (z : sp p vs H Q E0) : wpAny (model X.prog X.w) X.A (call (.ref f) us) (EP X pins σ Q) X.xe s := by
  have hl : us.length = ps.length := by rw [← r.length]; exact F.len _ _ _ _ _ z
  have hb2 := hb s us I.kIn (by rw [List.append_nil]; exact hl)
  rw [List.append_nil] at hb2
  have P1 := I.pin p (List.mem_append_left _ hp)
  have hpin : L2H.PinOk X.stack H s p := ⟨P1.1, P1.2.1, fun hm => (List.mem_cons.mp (I.stkSub p.1 hm)).elim P1.2.2.1 P1.2.2.2.1, P1.2.2.2.2⟩
  refine wpAny_call (codeAny_mono (F.run X.A X.stack s H ⟨us, []⟩ us vs _ E0 p hgd hr hpin I.env0 hb2 r z) fun r s' hq => ?_)
  cases r with
  | error er => exact (cx_no hq).elim
  | ok fl =>
    cases fl with
    | ret u => exact I.after hq
    | next => exact False.elim hq
    | brk => exact False.elim hq
    | cont => exact False.elim hq
def tCallE (sp : Pin → Sp) (p : Pin) (t : TA) : TE := fun σ H Q => t σ H fun vs H1 => sp p vs H1 Q E0
theorem pe_calE (c : CalE X.prog X.w X.K X.mg X.base k x ps sp) (hgd : X.A.guards = some []) (hp : p ∈ X.pn) (hr : L2H.RoomH j X.A) (hkj : k ≤ j) (hg : Gl X x) (ha : PA X (e :: es) t) (hdb : (x == ("__debug__" : Str)) = false := by decide)
    (he : starEach (e :: es) X.env = (false, eval e X.env) :: starEach es X.env := by rfl) (hpl : (backTo pos (starEach es X.env)).any (·.1) = false := by rfl) : PE X (.Call (.Name x q) (e :: es) [] pos) (tCallE sp p t) := by
  obtain ⟨f, fd, hm, hk, hb, F⟩ := c.ex
  refine ⟨fun pins s σ H Q I h => ?_⟩
  refine wpAny_Call_Name_kw (ld_glob I hg hm ?_ hdb)
  refine PySem.W.callWith_K (h₀ := X.base) I.ok.mod.kin hk (thn (ha.run pos pins s σ H _ I h) fun us s1 ⟨vs, H1, I1, r, z⟩ => ⟨I1.kIn, ?_⟩) he hpl
  exact run_fnE F hgd hp hb (hr.mono hkj) I1 r z
end
/-! ### the error itself -/
/-- what a class of errors says, so that its instances are asked rightly -/
structure ErK (K : PySem.W.Frag) (D : Addr) : Prop where
  cl : (PySem.W.clsIn K D).isSome = true
  ga : PySem.W.findIn K (.ref D) "__getattribute__" = some (some (.builtin "BaseException.__getattribute__"))
  gt : PySem.W.findIn K (.ref D) "__getattr__" = some none
  sub : PySem.W.subIn K (.ref D) (.type "BaseException") = some true
  dc : PySem.W.hasDictIn K D = true
  ca : PySem.W.findIn K (.ref D) "__class__" = some (some (.builtin "object.__class__"))
  cg : PySem.W.specialIn K (.builtin "object.__class__") "__get__" = some (some (.builtin "getset_descriptor.__get__"))
  ct : PySem.W.takesIn K (.builtin "object.__class__") = some true
  mo : PySem.W.mroIn K D (.type "object") = some true
/-- the error at p is of the class D; its fields are fs, or it has no dict -/
structure ErAt (D : Addr) (d : Option Addr) (p : Pin) : Prop where
  z : Zc (.ref D) d p.2
  f : ∃ vs, p.2.data = .fields vs
def ErFs (H : Hp) (d : Option Addr) (fs : List (Str × V)) : Prop := (d = none ∧ fs = []) ∨ ∃ dd, d = some dd ∧ H dd = some (.xd fs)
section
variable {X : Cx} {D : Addr} {d : Option Addr} {p : Pin}
theorem inst_of {pins : List (Addr × Obj)} {σ : L2.St} {H : Hp} {s : Shared} {fs : List (Str × V)} (I : L2.Inv X pins σ H s) (hp : p ∈ X.pn) (hz : ErAt D d p) (hf : ErFs H d fs) :
    ∃ od : Option Obj, PySem.W.InstAt s.heap p.1 p.2 D od := by
  obtain ⟨hget, _⟩ := I.pin p (List.mem_append_left _ hp)
  obtain ⟨vs, hv⟩ := hz.f
  have hn : PySem.W.notCls p.2 = true := by
    unfold PySem.W.notCls
    rw [hv] <;> rfl
  rcases hf with ⟨rfl, _⟩ | ⟨dd, rfl, hd⟩
  · refine ⟨none, hget, hz.z.1, hn, ?_⟩
    rw [hz.z.2]
    trivial
  · have hx : ObjOk X.prog X.w H s.heap dd (.xd fs) := I.hok dd _ hd
    obtain ⟨mA, hns, hr⟩ := hx
    obtain ⟨od, ho, hl⟩ := lookIn_ns hns
    refine ⟨some od, hget, hz.z.1, hn, ?_⟩
    rw [hz.z.2]
    exact ho
/-- isinstance(e, c) -/
def rIsP (K : PySem.W.Frag) (D : Addr) (d : Option Addr) (p : Pin) : List V → Hp → VK → Prop := fun xs H Q => ∃ (c : V) (cv : Value) (b : Bool) (fs : List (Str × V)), xs = [.ref p.1, c] ∧ (∀ u, RelV c u → u = cv) ∧ ErFs H d fs ∧ PySem.W.kitOne K (.ref D) cv = some b ∧ Q (.bl b) H
theorem call_isP (hp : p ∈ X.pn) (C : ErK X.K D) (hz : ErAt D d p) : CallR X (.builtin "isinstance") (rIsP X.K D d p) := by
  intro pins s σ H xs us Q I r h
  obtain ⟨c, cv, b, fs, rfl, hcv, hf, e, q⟩ := h
  cases r with
  | cons rx rr =>
    cases rr with
    | cons rt rr =>
      cases rr
      cases rx
      have ec := hcv _ rt
      subst ec
      obtain ⟨od, J⟩ := inst_of I hp hz hf
      exact PySem.W.kia_one (PySem.W.kitx_exc C.cl C.ga C.gt C.sub C.ca C.cg C.ct C.mo) I.kIn J e (fun z => nomatch z) fun tk => ⟨.bl b, H, I.kept (t' := tk) fun _ _ z => z, rfl, q⟩
/-- e.f -/
def tFldP (K : PySem.W.Frag) (D : Addr) (d : Option Addr) (p : Pin) (f : Str) (te : TE) : TE := fun σ H Q => te σ H fun x H1 => x = .ref p.1 ∧ ∃ (dd : Addr) (fs : List (Str × V)) (v : V), d = some dd ∧ H1 dd = some (.xd fs) ∧ fs.lookup f = some v ∧ PySem.W.findIn K (.ref D) f = some none ∧ Q v H1
theorem pe_fldP {e : Expr} {te : TE} {f : Str} {pos : Pos} (hp : p ∈ X.pn) (C : ErK X.K D) (hz : ErAt D d p) (he : PE X e te) (hb : attributeBase e f X.env (eval e X.env) = eval e X.env := by rfl) : PE X (.Attribute e f pos) (tFldP X.K D d p f te) := by
  refine ⟨fun pins s σ H Q I h => ?_⟩
  refine attr_of hb (thn (he.run pins s σ H _ I h) fun u s1 hh => ?_)
  obtain ⟨x, H1, I1, rx, ex, dd, fs, v, ed, ea, l, hno, q⟩ := hh
  subst ex ed
  cases rx
  obtain ⟨hget, _⟩ := I1.pin p (List.mem_append_left _ hp)
  obtain ⟨vs, hv⟩ := hz.f
  have hn : PySem.W.notCls p.2 = true := by
    unfold PySem.W.notCls
    rw [hv] <;> rfl
  have hx : ObjOk X.prog X.w H1 s1.heap dd (.xd fs) := I1.hok dd _ ea
  obtain ⟨mA, hns, hr⟩ := hx
  obtain ⟨od, ho, hl⟩ := lookIn_ns hns
  obtain ⟨u, hu, ru⟩ := RelO.some_of (v := v) (o := mA f) (by rw [← l]; exact hr f)
  have J : PySem.W.InstAt s1.heap p.1 p.2 D (some od) := ⟨hget, hz.z.1, hn, by rw [hz.z.2]; exact ho⟩
  exact HandSPX.exc_get I1.kIn J C.ga C.gt C.sub (PySem.W.findObj_own C.dc hno rfl (by rw [hl, hu])) (handed_of ru) ⟨v, H1, I1.tok _, ru, q⟩
end
end Z

/-! try: .. except (X, Y, Z) as n: .., own classes that take all that is let out. -/
namespace Z
open PySem PySem.Spec PyProof.Rows L2
/-- the suite's wish: what is let out belongs to one of the classes -/
def wAs3 (K : PySem.W.Frag) (cs : List Value) (i : Nat) (ts : Pin → Value → Option Addr → TS) (D : Ends) : WX := fun cls d σ H =>
  PySem.W.exmAny K cls cs = some true ∧ ∀ p : Pin, H p.1 = none → Zc cls d p.2 → (∃ vs, p.2.data = .fields vs) →
    ts p cls d { nx := fun σ' H' => D.nx (σ'.set i none) H', rt := D.rt, bk := fun σ' H' => D.bk (σ'.set i none) H', ct := fun σ' H' => D.ct (σ'.set i none) H' } (σ.set i (some (.ref p.1))) H
theorem flying_keeps {B h h' : Heap} {l : List Env} {a : Addr} {Z : Obj → Prop} (k : ∀ b o, h.get? b = some o → h'.get? b = some o) (x : HandSPX.FlyingZ B l a Z h) : HandSPX.FlyingZ B l a Z h' := by
  obtain ⟨x1, x2, x3, oe, vs, T, oT, ts, y1, y2, y3, y4, y5, y6, y7, y8, y9⟩ := x
  exact ⟨fun b o e => k b o (x1 b o e), x2, Heap.FunFrames.of_keeps (fun b o e _ => ⟨o, k b o e, rfl⟩) x3, oe, vs, T, oT, ts, k _ _ y1, y2, y3, y4, y5, y6, k _ _ y7, y8, y9⟩
section
variable {X : Cx} {x1 x2 x3 n : Str} {C1 C2 C3 : Addr} {i : Nat} {body suite : List Stmt} {b₀ : Stmt} {q1 q2 q3 tp pos pos' : Pos} {tx} {tb : WX → TS} {ts : Pin → Value → Option Addr → TS}
theorem ps_try_as3 (hs : X.stack = X.env :: X.outer) (hf : X.env.frame = some X.env.locals) (hN : X.N.Nodup) (hi : X.N[i]? = some n) (hln : X.env.kindOf n = some .local)
    (g1 : Gl X x1) (g2 : Gl X x2) (g3 : Gl X x3) (m1 : X.mg x1 = some (.ref C1)) (m2 : X.mg x2 = some (.ref C2)) (m3 : X.mg x3 = some (.ref C3))
    (hb : ∀ (W : WX) (pn : List (Addr × Obj)) (xe : Value → Shared → Prop), Takes (X.tr pn xe) W → PassesOwn (model X.prog X.w) X.A X.env xe → PSs (X.tr pn xe) body (tb W))
    (hsu : ∀ (p : Pin) (cls : Value) (d : Option Addr) (pn : List (Addr × Obj)), Zc cls d p.2 → (∃ vs, p.2.data = .fields vs) → PSs (X.suite p.1 (p :: pn)) (b₀ :: suite) (ts p cls d))
    (d1 : (x1 == ("__debug__" : Str)) = false := by decide) (d2 : (x2 == ("__debug__" : Str)) = false := by decide) (d3 : (x3 == ("__debug__" : Str)) = false := by decide)
    (hst : ∀ env : Env, starEach [Expr.Name x1 q1, .Name x2 q2, .Name x3 q3] env = [(false, eval (.Name x1 q1) env), (false, eval (.Name x2 q2) env), (false, eval (.Name x3 q3) env)] := by intro env; rfl) :
    PS X (.Try body [.ExceptHandler (some (.Tuple [.Name x1 q1, .Name x2 q2, .Name x3 q3] tx tp)) (some n) (b₀ :: suite) pos'] [] [] pos) (fun D σ H => tb (wAs3 X.K [.ref C1, .ref C2, .ref C3] i ts D) D σ H) := by
  refine ⟨fun pins s σ H D I h => ?_⟩
  have ok := I.ok
  have hfr : X.A.frames = some (X.env :: X.outer) := by rw [ok.frames, hs]
  refine wpAny_Try_except ?_
  refine wpAny_mono ((hb (wAs3 X.K [.ref C1, .ref C2, .ref C3] i ts D) (X.pn ++ pins) (fun e s₁ => wpAny (model X.prog X.w) X.A (noteFrame e X.env) (fun _ s₂ => wpAny (model X.prog X.w) X.A (setFlight e none) (fun _ s₃ =>
    wpAny (model X.prog X.w) X.A (handleBy e X.env [.ExceptHandler (some (.Tuple [.Name x1 q1, .Name x2 q2, .Name x3 q3] tx tp)) (some n) (b₀ :: suite) pos']) (SP X pins D) X.xe s₃) X.xe s₂) X.xe s₁) (fun u s' xx => ?_) PassesOwn.looking).run [] s σ H D (I.toTry _) h) (fun f s1 hsp => ?_) (fun e s1 he => he)
  · obtain ⟨a, B, sI, pins', σ', H', cls, d, rfl, J', nb, up, sky, na, os, ag, hcl, hyes⟩ := xx
    have J : Inv X pins σ' H' sI := J'.ofTry ok
    have sky' : Sky B (X.env :: X.outer) a (Zc cls d) X.env.locals s'.heap := by rw [← hs]; exact sky
    show wpAny (model X.prog X.w) X.A (noteFrame (.ref a) X.env) _ _ _
    refine Sky.land Zc.steady hfr hf sky' fun h3 fl3 up3 => ?_
    have J3 : Inv X pins σ' H' { s' with heap := h3 } := J.landed nb fl3.1 (up.trans up3) os ag
    obtain ⟨oe3, vs3, he3, hz3, hd3⟩ := fl3.there
    have notFr : ∀ {h : Heap} {o : Obj} {vs : Array Value}, h.FunFrames B (X.env :: X.outer) → h.get? a = some o → o.data = .fields vs → a ∉ frs (X.env :: X.outer) := fun {h o vs} ff e dd hm => by
      obtain ⟨_, o2, e2, hnf⟩ := ff.mem hm
      rw [e] at e2
      cases e2
      exact hnf _ dd
    have nfr := notFr fl3.2.2.1 he3 hd3
    have nL : a ≠ X.env.locals := fun z => nfr (List.mem_filterMap.mpr ⟨X.env, List.mem_cons_self, by rw [hf, z]⟩)
    have nF : a ∉ X.fs := fun hm => by
      obtain ⟨e, he, q⟩ := List.mem_filterMap.mp hm
      exact nfr (List.mem_filterMap.mpr ⟨e, List.mem_cons_of_mem _ he, q⟩)
    have S3 := J3.suite he3 hd3 na nL nF
    refine wpAny_handleBy_cons (codeAny_handlers_test ?_) (by intro q; cases q)
    -- the tuple of the classes
    refine wpAny_Tuple_spliced ?_
    rw [hst]
    show wpAny (model X.prog X.w) (X.A.mark (some (.ref a))) (spliced [(false, _), (false, _), (false, _)]) _ _ _
    refine Calls.spliced_cons (ld_glob (X := X.suite a ((a, oe3) :: (X.pn ++ pins))) S3 g1 m1 ?_ d1)
    refine Calls.spliced_cons (ld_glob (X := X.suite a ((a, oe3) :: (X.pn ++ pins))) S3 g2 m2 ?_ d2)
    refine Calls.spliced_cons (ld_glob (X := X.suite a ((a, oe3) :: (X.pn ++ pins))) S3 g3 m3 ?_ d3)
    refine Calls.spliced_nil ⟨by show 3 ≤ sizeLine; decide, ?_⟩
    have kp : ∀ b o, h3.get? b = some o → (h3.push { cls := .type "tuple", data := .seq [Value.ref C1, .ref C2, .ref C3].toArray }).get? b = some o := fun b o e => Heap.get?_push_of_some _ e
    have htp : (h3.push { cls := .type "tuple", data := .seq [Value.ref C1, .ref C2, .ref C3].toArray }).get? h3.objs.size = some { cls := .type "tuple", data := .seq [Value.ref C1, .ref C2, .ref C3].toArray } := Heap.get?_push_size _ rfl
    have fl5 := flying_keeps kp fl3
    have up5 : s'.heap.UpToSlots (h3.push { cls := .type "tuple", data := .seq [Value.ref C1, .ref C2, .ref C3].toArray }) := up3.trans (Heap.UpToSlots.of_keeps kp)
    show wpAny _ _ (excMatches (.ref a) (.ref h3.objs.size)) _ _ { s' with heap := h3.push { cls := .type "tuple", data := .seq [Value.ref C1, .ref C2, .ref C3].toArray } }
    generalize h3.push { cls := .type "tuple", data := .seq [Value.ref C1, .ref C2, .ref C3].toArray } = h5 at kp htp fl5 up5
    have J5 : Inv X pins σ' H' { s' with heap := h5 } := J.landed nb fl5.1 (up.trans up5) os ag
    have LT : PySem.W.Looks (model X.prog X.w) h5 (typeOf (.ref a)) cls := fun A Q E s k q => wpAny_typeOf_ref (k _ _ (kp _ _ he3)) (by rw [hz3.1]; exact q)
    refine (PySem.W.exm_tup3 (M := model X.prog X.w) J5.kIn LT htp hcl).here ?_
    refine codeAny_handlers_suite_as ?_
    refine HandSPX.lands_againZ fl5 fun h4 fl4 up4 => ?_
    have J4 : Inv X pins σ' H' { s' with heap := h4 } := J.landed nb fl4.1 ((up.trans up5).trans up4) os ag
    obtain ⟨oe4, vs4, he4, hz4, hd4⟩ := fl4.there
    have S4 := J4.suite he4 hd4 na nL nF
    refine store_ok (X := X.suite a ((a, oe4) :: (X.pn ++ pins))) (v := .ref a) S4 hN hi (.inl hln) rfl (fun s5 S5 => ?_) (.inr hln)
    refine wpAny_mono ((hsu (a, oe4) cls d (X.pn ++ pins) hz4 ⟨_, hd4⟩).run [] s5 _ H' _ S5 (hyes (a, oe4) na hz4 ⟨_, hd4⟩)) (fun f s6 hsp => ?_) (fun _ _ z => False.elim z)
    have end_ : ∀ {σ6 : L2.St} {H6 : Hp} {Q : Shared → Prop}, Inv (X.suite a ((a, oe4) :: (X.pn ++ pins))) [] σ6 H6 s6 → (∀ s7, Inv X pins (σ6.set i none) H6 s7 → Q s7) →
        wpAny (model X.prog X.w) X.A (do bindName X.env n .none; unbindBehindTheSuite X.env n pos') (fun _ s7 => Q s7) X.xe s6 := fun {σ6 H6 Q} S6 hq => gone_ok (S6.unsuite ok) hN hi hln hq
    cases f with
    | next =>
      obtain ⟨σ6, H6, S6, z⟩ := hsp
      exact end_ S6 fun s7 J7 => ⟨_, _, J7, z⟩
    | brk =>
      obtain ⟨σ6, H6, S6, z⟩ := hsp
      exact end_ S6 fun s7 J7 => ⟨_, _, J7, z⟩
    | cont =>
      obtain ⟨σ6, H6, S6, z⟩ := hsp
      exact end_ S6 fun s7 J7 => ⟨_, _, J7, z⟩
    | ret u =>
      obtain ⟨v6, σ6, H6, S6, r6, z⟩ := hsp
      exact end_ S6 fun s7 J7 => ⟨_, _, _, J7, r6, z⟩
  · cases f with
    | next =>
      obtain ⟨σ', H', J', z⟩ := hsp
      exact wpAny_execs_nil ⟨σ', H', J'.ofTry ok, z⟩
    | brk =>
      obtain ⟨σ', H', J', z⟩ := hsp
      exact ⟨σ', H', J'.ofTry ok, z⟩
    | cont =>
      obtain ⟨σ', H', J', z⟩ := hsp
      exact ⟨σ', H', J'.ofTry ok, z⟩
    | ret u =>
      obtain ⟨v, σ', H', J', r, z⟩ := hsp
      exact ⟨v, σ', H', J'.ofTry ok, r, z⟩
end
end Z

/-! l.count(b), l a list of truth values. -/
theorem L2H.RoomH.units {k : Nat} {A : PySem.Around} (r : L2H.RoomH k A) : A.units + 64 < PySem.cLine := by
  have := r.un
  omega
namespace Z
open PySem PySem.Spec PyProof.Rows L2
theorem dp_bls {K : PySem.W.Frag} {H : Hp} (bs : List Bool) : DpAll K H (bs.map V.bl) (bs.map PyData.bool) := by
  induction bs with
  | nil => exact .nil
  | cons b bs ih => exact .cons (.bl b) ih
def rCntB (K : PySem.W.Frag) : V → List V → Hp → VK → Prop := fun x xs H Q => ∃ (p : Addr) (bs : List Bool) (k : Bool), x = .ref p ∧ xs = [.bl k] ∧ SqL K H p (bs.map V.bl) ∧ Q (.int (bs.count k : Nat)) H
theorem plain_bls (bs : List Bool) : PyData.plainAll (bs.map PyData.bool) = true := by
  induction bs with
  | nil => rfl
  | cons b bs ih => simp only [List.map_cons, PyData.plainAll, PyData.plain, ih, Bool.and_self]
theorem depth_bls (bs : List Bool) : PyData.depthAll (bs.map PyData.bool) = 0 := by
  induction bs with
  | nil => rfl
  | cons b bs ih => simp [PyData.depthAll, PyData.depth, ih]
theorem mt_countB {X : Cx} (hu : X.A.units + 64 < cLine) : MtR X "list.count" (rCntB X.K) := by
  intro pins s σ H x xs v us Q I rx rxs h
  obtain ⟨p, bs, k, rfl, rfl, hs, q⟩ := h
  cases rx
  cases rxs with
  | cons ry rt =>
    rename_i uy ut
    cases rt
    cases ry
    obtain ⟨its, rv, ⟨o, n, ho, hc, hdn, hdt⟩, hlen⟩ := I.list hs
    obtain ⟨as, r1⟩ := Dp.readsAll I _ _ its (dp_bls bs) rv
    have hl : s.heap.IsList p its.toArray := ⟨o, ho, hc, n, hdt⟩
    refine SeqAt.count_list_data hl (by simpa using r1) (Reads.bool k) (plain_bls bs) (by simp only [PyData.plain]) (by rw [depth_bls]; simp; omega) ?_
    have e : ((bs.map PyData.bool).countP fun y => PyData.eqv y (.bool k)) = bs.count k := by
      rw [List.countP_map, List.count]
      refine List.countP_congr fun b _ => ?_
      cases b <;> cases k <;> simp [PyData.eqv]
    rw [e]
    exact ⟨.int _, H, I.tok _, ⟨_, rfl⟩, q⟩
end Z

/-! C() by the default of its one argument; data of any kind. -/
namespace Z
open PySem PySem.Spec PyProof.Rows L2
structure MkD (P : Program) (w : World) (K : PySem.W.Frag) (mg : Str → Option Value) (base : Heap) (k : Nat) (x : Str) (C : Addr) (ps : List Str) (sp : Sp) (dv : V) : Prop where
  ex : ∃ f fd ds, mg x = some (.ref C) ∧ Mk K C f ∧ Binds K fd ps ds ∧ Vals [dv] ds ∧ FnOk P w K mg base (L2.CX P w) k f fd ps sp
theorem pe_mk0 {X : Cx} {k j : Nat} {x : Str} {C : Addr} {ps : List Str} {sp : Sp} {dv : V} {p pos : Pos} (c : MkD X.prog X.w X.K X.mg X.base k x C ps sp dv) (hr : Room j X.A) (hkj : k + 1 ≤ j) (hg : Gl X x) (hdb : (x == ("__debug__" : Str)) = false := by decide) : PE X (.Call (.Name x p) [] [] pos) (tMake C sp [dv] E0 tNil) := by
  obtain ⟨f, fd, ds, hm, hk, hb, hv, F⟩ := c.ex
  exact pe_make0 hk F (hr.mono hkj) hg hm hb hv passL hdb
theorem tyd_sqL {K : PySem.W.Frag} {H : Hp} {a : Addr} {xs : List V} (h : SqL K H a xs) : Tyd K H (.ref a) .oth := by
  rcases h with (h | ⟨o, h⟩) | h
  · exact tyd_lst h
  · exact ⟨_, .base (.frz h), tyok_lst⟩
  · obtain ⟨o, its, n, h1, h2, _⟩ := h
    exact ⟨_, .kList h1 h2, tyok_lst⟩
mutual
theorem dt_of_dp {K : PySem.W.Frag} {H : Hp} : ∀ (d : PyData) (v : V), Dp K H v d → ∃ e, DT K H v e
  | .none, _, h => by
    cases h
    exact ⟨_, .non⟩
  | .bool b, _, h => by
    cases h
    exact ⟨_, .bl b⟩
  | .int i, _, h => by
    cases h
    exact ⟨_, .int i⟩
  | .str s, _, h => by
    cases h
    exact ⟨_, .str s⟩
  | .list xs, _, h => by
    cases h with
    | lst h1 _ => exact ⟨_, .oth (tyd_sqL h1)⟩
  | .tuple xs, _, h => by
    cases h with
    | tup h1 h2 =>
      obtain ⟨es, h3⟩ := dts_of_dp xs _ h2
      exact ⟨_, .tup h1 h3⟩
  | .dict _, _, h => by cases h
theorem dts_of_dp {K : PySem.W.Frag} {H : Hp} : ∀ (ds : List PyData) (vs : List V), DpAll K H vs ds → ∃ es, DTs K H vs es
  | [], _, h => by
    cases h
    exact ⟨_, .nil⟩
  | d :: ds, _, h => by
    cases h with
    | cons h1 h2 =>
      obtain ⟨e, h3⟩ := dt_of_dp d _ h1
      obtain ⟨es, h4⟩ := dts_of_dp ds _ h2
      exact ⟨_, .cons h3 h4⟩
end
mutual
/-- lists of at most two items -/
def tagL : PyData → Bool
  | .list xs => decide (xs.length ≤ 2) && tagLs xs
  | .tuple xs => tagLs xs
  | _ => true
def tagLs : List PyData → Bool
  | [] => true
  | x :: xs => tagL x && tagLs xs
end
theorem dps_len {K : PySem.W.Frag} {H : Hp} : ∀ (ds : List PyData) (vs : List V), DpAll K H vs ds → vs.length = ds.length
  | [], _, h => by
    cases h
    rfl
  | d :: ds, _, h => by
    cases h with
    | cons h1 h2 => rw [List.length_cons, List.length_cons, dps_len ds _ h2]
mutual
theorem dp_mono {K : PySem.W.Frag} {H H' : Hp} {m : Addr → Prop} (e : Gr m H H') (hm : ∀ a, m a → H a = none ∨ ∃ x d c : Int, H a = some (.lst [.int x, .int d, .int c])) : ∀ (d : PyData) (v : V), tagL d = true → Dp K H v d → Dp K H' v d
  | .none, _, _, h => by
    cases h
    exact .non
  | .bool b, _, _, h => by
    cases h
    exact .bl b
  | .int i, _, _, h => by
    cases h
    exact .int i
  | .str s, _, _, h => by
    cases h
    exact .str s
  | .list xs, _, ht, h => by
    simp only [tagL, Bool.and_eq_true, decide_eq_true_eq] at ht
    cases h with
    | lst h1 h2 =>
      rename_i a ys
      refine .lst ?_ (dps_mono e hm xs ys ht.2 h2)
      have hl := dps_len xs ys h2
      rcases h1 with (h1 | ⟨o, h1⟩) | h1
      · refine .inl (.inl (e.at h1 fun hma => ?_))
        rcases hm a hma with z | ⟨x, d, c, z⟩
        · rw [h1] at z
          cases z
        · rw [h1] at z
          cases z
          simp at hl
          omega
      · exact .inl (.inr ⟨o, e.frz h1⟩)
      · exact .inr h1
  | .tuple xs, _, ht, h => by
    simp only [tagL] at ht
    cases h with
    | tup h1 h2 => exact .tup (e.seqT h1) (dps_mono e hm xs _ ht h2)
  | .dict _, _, _, h => by cases h
theorem dps_mono {K : PySem.W.Frag} {H H' : Hp} {m : Addr → Prop} (e : Gr m H H') (hm : ∀ a, m a → H a = none ∨ ∃ x d c : Int, H a = some (.lst [.int x, .int d, .int c])) : ∀ (ds : List PyData) (vs : List V), tagLs ds = true → DpAll K H vs ds → DpAll K H' vs ds
  | [], _, _, h => by
    cases h
    exact .nil
  | d :: ds, _, ht, h => by
    simp only [tagLs, Bool.and_eq_true] at ht
    cases h with
    | cons h1 h2 => exact .cons (dp_mono e hm d _ ht.1 h1) (dps_mono e hm ds _ ht.2 h2)
end
end Z

/-! a law's words about three classes of errors. -/
namespace Z
open PySem PySem.Spec PyProof.Rows L2
/-- what the classes of errors say -/
structure Er3 (K : PySem.W.Frag) : Prop where
  k : ∀ (i : Nat) (n : Str), er3N[i]? = some n → ErK K (He.ga K n)
  own : ∀ (i : Nat) (n : Str) (j : Nat) (m : Str), er3N[i]? = some n → er3N[j]? = some m → PySem.W.kitOne K (.ref (He.ga K n)) (.ref (He.ga K m)) = some (decide (i = j))
  exm : ∀ (i : Nat) (n : Str), er3N[i]? = some n → PySem.W.exmAny K (.ref (He.ga K n)) [.ref (He.ga K "WrongValue"), .ref (He.ga K "WrongName"), .ref (He.ga K "NoAnswer")] = some true
  nof : ∀ (i : Nat) (n : Str), er3N[i]? = some n → PySem.W.findIn K (.ref (He.ga K n)) (er3F i) = some none
structure Gl3 (K : PySem.W.Frag) (mg : Str → Option Value) : Prop where
  NotAnOrder_ : mg "NotAnOrder" = some (.ref (He.ga K "NotAnOrder"))
  InvalidNumber_ : mg "InvalidNumber" = some (.ref (He.ga K "InvalidNumber"))
  TooMany_ : mg "TooMany" = some (.ref (He.ga K "TooMany"))
  WrongValue_ : mg "WrongValue" = some (.ref (He.ga K "WrongValue"))
  WrongName_ : mg "WrongName" = some (.ref (He.ga K "WrongName"))
  NoAnswer_ : mg "NoAnswer" = some (.ref (He.ga K "NoAnswer"))
theorem er3_lt {i : Nat} {n : Str} (h : er3N[i]? = some n) : i < 3 := (List.getElem?_eq_some_iff.mp h).1
theorem ErFs.up {H H' : Hp} {d : Option Addr} {fs : List (Str × V)} {m : Addr → Prop} (h : ErFs H d fs) (e : Gr m H H') : ErFs H' d fs := by
  rcases h with h | ⟨dd, h1, h2⟩
  · exact .inl h
  · exact .inr ⟨dd, h1, e.still h2 rfl⟩
section
variable {K : PySem.W.Frag} {H : Hp} {Q : VK} {p : Pin} {d : Option Addr} {fs : List (Str × V)}
theorem is_own3 (T : Er3 K) {i j : Nat} {n m : Str} (hi : er3N[i]? = some n) (hf : ErFs H d fs) (hj : er3N[j]? = some m) (q : Q (.bl (decide (i = j))) H) : rIsP K (He.ga K n) d p [.ref p.1, .ref (He.ga K m)] H Q :=
  ⟨_, .ref (He.ga K m), _, fs, rfl, fun u r => r, hf, T.own i n j m hi hj, q⟩
end
end Z

/-! drawing from a list of numbers that changes: loops and comprehensions beside it. -/
namespace Z
open PySem PySem.Spec PyProof.Rows L2
theorem noPyJ {d m : Int} (h1 : 0 < m) (h2 : m ≤ 1000000000000000000000000000000) : Builtin.divisionGoesByPylong d m = false := by
  refine PyProof.noPylong_of_log2 ?_
  have h0 : m.natAbs ≠ 0 := by omega
  rw [Nat.log2_lt h0]
  exact Nat.lt_of_lt_of_le (show m.natAbs < 2 ^ 100 by
    have e : (2 : Nat) ^ 100 = 1267650600228229401496703205376 := by decide +kernel
    rw [e]
    omega) (Nat.pow_le_pow_right (by decide) (by decide))
theorem Gr.freshJ {m : Addr → Prop} {a : Addr} {H H1 H2 : Hp} (e : Gr m H H1) (h : H a = none) (f : Gr (· = a) H1 H2) : Gr m H H2 := fun b o q => by
  rcases e b o q with z | ⟨h1, o1, h2, h3⟩
  · refine .inl (f.at z fun hb => ?_)
    subst hb
    rw [h] at q
    cases q
  · refine .inr ⟨h1, o1, h2, f.at h3 fun hb => ?_⟩
    subst hb
    rw [h] at q
    cases q
theorem atJ {α : Type} {xs : List α} {r : Int} (h0 : 0 ≤ r) (h1 : r < (xs.length : Int)) : ∃ v, v ∈ xs ∧ atI xs r = some v := by
  have hr : r.toNat < xs.length := by omega
  refine ⟨xs[r.toNat], List.getElem_mem hr, ?_⟩
  have e := atI_nat (List.getElem?_eq_getElem hr)
  rwa [Int.toNat_of_nonneg h0] at e
/-- three numbers to draw from -/
def Pool (H : Hp) (a : Addr) : Prop := ∃ x d c : Int, H a = some (.lst [.int x, .int d, .int c])
theorem Pool.get {H : Hp} {a p : Addr} (h : Pool H a) (hp : H p = none) : ¬ p = a := fun z => by
  obtain ⟨_, _, _, h⟩ := h
  rw [z, h] at hp
  cases hp
theorem Pool.new {H : Hp} {a p : Addr} {o : HO} (h : Pool H a) (hp : ¬ p = a) : Pool (upd H p o) a := by
  obtain ⟨x, d, c, h⟩ := h
  exact ⟨x, d, c, by rw [upd_ne (fun z => hp z.symm)]; exact h⟩
theorem Pool.newN {H : Hp} {a p : Addr} {o : HO} (h : Pool H a) (hp : H p = none) : Pool (upd H p o) a := h.new (h.get hp)
theorem Pool.ex {H H' : Hp} {a : Addr} (h : Pool H a) (e : Ex H H') : Pool H' a := by
  obtain ⟨x, d, c, h⟩ := h
  exact ⟨x, d, c, e.get h⟩
section
variable {K : PySem.W.Frag} {g : TG} {tb : TS} {te tl : TE} {Dn : Ends} {σ : L2.St} {H : Hp} {Q : VK} {a : Addr} {xs : List V}
/-- for x in e, e may change the heap -/
theorem forLj (C : Addr → List V → Hp → Prop) (ht : ∀ R : VK, (∀ p xs H1, C p xs H1 → R (.ref p) H1) → tl σ H R) (hS : ∀ p xs H1, C p xs H1 → SqL K H1 p xs) (Pv : Addr → List V → Nat → L2.St → Hp → Prop) (h0 : ∀ p xs H1, C p xs H1 → Pv p xs 0 σ H1)
    (hG : ∀ p xs i σ' H', Pv p xs i σ' H' → SqL K H' p xs)
    (hs : ∀ p xs (i : Nat) (x : V) σ' H', xs[i]? = some x → Pv p xs i σ' H' → g x σ' H' fun σ2 H2 => tb { Dn with nx := Pv p xs (i + 1), ct := Pv p xs (i + 1), bk := Dn.nx } σ2 H2)
    (hd : ∀ p xs σ' H', Pv p xs xs.length σ' H' → Dn.nx σ' H') : tFor (iList K tl) g tb Dn σ H :=
  ht _ fun p xs H1 c => ⟨p, rfl, ⟨xs, hS p xs H1 c⟩, for_list (Pv p xs) (h0 p xs H1 c) (fun i σ' H' _ q => hG p xs i σ' H' q) (fun i x σ' H' hx q => hs p xs i x σ' H' hx q) (hd p xs)⟩
/-- [x for x in l if t], t may change what m tells, and may tell anything -/
theorem lcFd {tt : TT} {j : Nat} (ht : ∀ R : VK, R (.ref a) H → tl σ H R) (hS : SqL K H a xs) (hn : xs.length ≤ 90000) (hj : j < σ.length) (m : Addr → Prop) (ha : ¬ m a) (I : Hp → Prop)
    (hm : ∀ b, m b → H b ≠ none) (hI : I H) (hIu : ∀ H' D o, H D = none → Gr m H H' → I H' → I (upd H' D o))
    (hs : ∀ (x : V) (H' : Hp) (F : Bool → Hp → Prop), x ∈ xs → Gr m H H' → I H' → (∀ b H3, Gr m H' H3 → I H3 → F b H3) → tt ((wipe σ [j]).set j (some x)) H' F)
    (k : ∀ D r H', H D = none → Gr m H H' → I H' → r.Sublist xs → H' D = some (.lst r) → Q (.ref D) H') : tLc (iList K tl) (gName j) tt (tVar j) [j] σ H Q := by
  refine ht _ ⟨a, rfl, ⟨xs, hS⟩, fun D hD => ?_⟩
  have nD : ¬ m D := fun z => hm D z hD
  refine lc_it walk_list (fun i H' => Gr m H H' ∧ I H' ∧ ∃ r : List V, H' D = some (.lst r) ∧ r.Sublist (xs.take i)) ⟨.new hD, hIu H D _ hD .refl hI, [], upd_same, List.nil_sublist _⟩ (fun i H' _ q => q.1.seqL hS ha) ?_ ?_
  · rintro i x H' H'' hi ⟨q1, q2, r, q3, q4⟩ ⟨e, hx⟩
    subst e
    have hjl : j < (wipe σ [j]).length := by
      rw [wipe_length]
      exact hj
    have et : xs.take (i + 1) = xs.take i ++ [x] := by
      rw [List.take_add_one, hx]
      rfl
    refine ⟨?_, ?_⟩
    · show ((wipe σ []).set j none |>.set j (some x)).set j none = (wipe σ []).set j none
      rw [List.set_set, List.set_set]
    · refine hs x _ _ (List.mem_of_getElem? hx) q1 q2 fun b H3 e3 i3 => ?_
      have e4 := e3.at q3 nD
      cases b
      · refine iteF ⟨q1.trans e3, i3, r, e4, ?_⟩
        rw [et]
        exact q4.trans (List.sublist_append_left ..)
      · refine iteT ⟨x, List.getElem?_set_self hjl, _, e4, smallt ?_, (q1.trans e3).put e4 (.inl hD), hIu _ D _ hD (q1.trans e3) i3, _, upd_same, ?_⟩
        · have h1 := q4.length_le
          rw [List.length_take] at h1
          omega
        · rw [et]
          exact q4.append (List.Sublist.refl _)
  · rintro H' ⟨q1, q2, r, q3, q4⟩
    rw [List.take_length] at q4
    exact k D r H' hD q1 q2 q4 q3
end
end Z

/-! f(lambda: e), f a def that calls what it got within a try: the wish about errors may speak of f's names. -/
namespace Z
open PySem PySem.Spec PyProof.Rows L2 LamX
section
variable {X : Cx} {pins : List (Addr × Obj)} {σ : L2.St} {H : Hp} {s : Shared}
theorem pe_actG {CXg : CXT} {Eg : XK} {Ng : List Str} {qg : Str} {sg : Scope} {g f c' : Addr} {cdg pm ctv : Value} {params : Arguments} {body : Expr} {scope : Scope} {k i : Nat} {a : Str} {pn : List (Addr × Obj)} {xe : Value → Shared → Prop} {W : WX} {tb : XK → TE} {p1 p2 : Pos}
    (I : L2.Inv X pins σ H s) (L : LamS X.env.scope scope) (hf : s.heap.get? f = some (PySem.W.kla_obj "<lambda>" (X.env.qual ++ "<lambda>") params body scope (cloFrom X.env.cells scope.names []) pm c' ctv)) (hfn : H f = none) (hfr : f ∉ frs X.stack)
    (hbind : bindArgs (PySem.W.kla_fn "<lambda>" (X.env.qual ++ "<lambda>") params body scope (cloFrom X.env.cells scope.names []) pm (.ref c') ctv) ⟨[], []⟩ = pure [])
    (tk : Takes ((cxOf CXg X.prog X.w X.K X.mg X.base Ng qg sg g cdg X.A X.stack s H Eg).tr pn xe) W) (hgd : X.A.guards = some []) (hr : Room (k + 1) (X.A.deeper (envOfC qg sg s.heap.objs.size g cdg)))
    (hbody : ∀ (A : Around) (outer : List Env) (s : Shared) (H : Hp) (E : XK), A.guards = some [] → Room k (A.deeper (lamEnv X scope s.heap.objs.size f c')) → PE (lamCx X A outer s H E scope f c') body (tb E))
    (hN : Ng[i]? = some a) (hv : Vis sg a) (hd : (a == ("__debug__" : Str)) = false := by decide) (hcd : (a == ("__classdict__" : Str)) = false := by decide) :
    PE ((cxOf CXg X.prog X.w X.K X.mg X.base Ng qg sg g cdg X.A X.stack s H Eg).tr pn xe) (.Call (.Name a p1) [] [] p2)
      (fun σZ HZ Q => σZ[i]? = some (some (.ref f)) ∧ HZ c' = some (CodeO c' (X.env.qual ++ "<lambda>")) ∧ ∃ E : XK, (∀ cls d H', E cls d H' → W cls d σZ H') ∧ tb E σ HZ Q) := by
  refine ⟨fun pinsZ sZ σZ HZ Q IZ h => ?_⟩
  obtain ⟨hs, hc, E, hW, ht⟩ := h
  refine wpAny_Call_Name_kw (thn ((pe_var (pos := p1) (i := i) hN hv hd hcd).run pinsZ sZ σZ HZ (fun v H1 => v = .ref f ∧ H1 = HZ) IZ ⟨.ref f, hs, rfl, rfl⟩) fun u s1 ⟨v, H1, I1, r1, q1⟩ => ?_)
  obtain ⟨ev, eH⟩ := q1
  subst ev
  rw [eH] at I1
  cases r1
  have of1 : s1.heap.get? f = some (PySem.W.kla_obj "<lambda>" (X.env.qual ++ "<lambda>") params body scope (cloFrom X.env.cells scope.names []) pm c' ctv) := I1.base.keep f _ hf hfn hfr (fun z => nomatch (show f ∈ ([] : List Addr) from z))
  refine PySem.W.callWith_F0 ⟨_, _, _, _, of1⟩ ?_
  have un : Un (frs X.stack) [] H HZ s.heap s1.heap := I1.base
  obtain ⟨⟨oc, vs, t, hoc, hdc, hvc⟩, _, _⟩ := I1.hok c' _ hc
  have rc : codeAny (model X.prog X.w) (X.A.deeper (envOfC qg sg s.heap.objs.size g cdg)) (.call (.ref f) ⟨[], []⟩) (CR (L2.CX X.prog X.w) (envOfC qg sg s.heap.objs.size g cdg :: X.stack) X.prog X.w HZ s1 Q E) s1 := by
    refine PySem.W.kla_callFunE hr.depth of1 rfl L.co L.gen rfl ⟨c', oc, vs, t, rfl, hoc, hdc, hvc⟩ ?_
    rw [hbind]
    refine wpAny_pure (wpAny_newFunctionEnv (fun y hy => (L.own y hy).2) (fun y hy => absurd hy (by simp)) (fun h₁ hns hsb => ⟨I1.nolimit.fresh _ hsb, ?_⟩) L.kind)
    show codeAny _ _ (.expr body (lamEnv X scope s1.heap.objs.size f c')) _ _
    have kp : ∀ b o, s1.heap.get? b = some o → h₁.get? b = some o := fun b o e => hsb.extBut b o (Nat.ne_of_lt (Heap.lt_size e)) (Heap.get?_push_of_some _ e)
    have J : L2.Inv (lamCx X (X.A.deeper (envOfC qg sg s.heap.objs.size g cdg)) (envOfC qg sg s.heap.objs.size g cdg :: X.stack) s1 HZ E scope f c') [] σ HZ { s1 with heap := h₁, toks := s1.toks + ([] : List (Str × Value)).length } :=
      lam_start2 I L I1.env0 hr.hd un hns kp
    refine PySem.W.kla_codeExpr (wpAny_mono ((hbody (X.A.deeper (envOfC qg sg s.heap.objs.size g cdg)) _ s1 HZ E hgd (hr.deeper _)).run [] _ _ HZ Q J ht) (fun v s' hq => ?_) fun e s' hq => hq)
    obtain ⟨w', H', J', rv, q⟩ := hq
    exact ⟨w', H', J'.os, J'.bare, J'.base, J'.hok, rv, q⟩
  refine wpAny_call (codeAny_mono rc fun r s' hq => ?_)
  cases r with
  | error e => exact tk e s' (XE.of_call I1 (fun cls d H' h => hW cls d H' h) hq)
  | ok fl =>
    cases fl with
    | ret u => exact I1.after hq
    | next => exact False.elim hq
    | brk => exact False.elim hq
    | cont => exact False.elim hq
end
/-- the def that calls what it got: TT: what it makes of the lambda's reading -/
def GivesG (X : Cx) (Ng : List Str) (x : Str) (sg : Scope) (g : Addr) (cdg : Value) (bg : List Stmt) (a : Str) (q : Str) (TT : (XK → Hp → VK → Prop) → Hp → VK → Prop) : Prop :=
  ∀ (f c' : Addr) (s : Shared) (H : Hp) (Q : VK) (tl : XK → Hp → VK → Prop),
    (∀ (W : WX) (pn : List (Addr × Obj)) (xe : Value → Shared → Prop) (p1 p2 : Pos), Takes ((cxOf C8.CX0 X.prog X.w X.K X.mg X.base Ng x sg g cdg X.A X.stack s H C8.E0).tr pn xe) W →
      PE ((cxOf C8.CX0 X.prog X.w X.K X.mg X.base Ng x sg g cdg X.A X.stack s H C8.E0).tr pn xe) (.Call (.Name a p1) [] [] p2) (fun σZ HZ Q => σZ[0]? = some (some (.ref f)) ∧ HZ c' = some (CodeO c' q) ∧ ∃ E : XK, (∀ cls d H', E cls d H' → W cls d σZ H') ∧ tl E HZ Q)) →
    H c' = some (CodeO c' q) → TT tl H Q →
    ∃ t, PSs (cxOf C8.CX0 X.prog X.w X.K X.mg X.base Ng x sg g cdg X.A X.stack s H C8.E0).nox bg t ∧ t { nx := fun _ H' => Q .non H', rt := Q } (L2.start Ng [.ref f]) H
section
variable {X : Cx}
/-- x(lambda: body) -/
theorem pe_lamG {T : List (Addr × Str)} {TT : (XK → Hp → VK → Prop) → Hp → VK → Prop} {x a : Str} {g c P : Addr} {k : Nat} {pg : Arguments} {bg : List Stmt} {sg : Scope} {dV kV doc pm cdv ct oc : Value} {an od : Option Addr} {osl : Array (Option Value)} {Ng : List Str}
    {params : Arguments} {body : Expr} {scope : Scope} {t : XK → TE} {p lpos pos : Pos} (hg : Gl X x) (hm : X.mg x = some (.ref g)) (hk : PySem.W.keepIn X.K (.ref g) = true)
    (lk : X.K.lookup g = some ⟨oc, od, .func (PySem.W.fnOf x x pg bg sg dV kV doc pm an cdv ct), osl⟩) (hcg : PySem.W.codeIn X.K cdv x = true) (hb : L2.Binds X.K (PySem.W.fnOf x x pg bg sg dV kV doc pm an cdv ct) [a] []) (Sg : FnScope Ng [a] sg) (hNg : Ng[0]? = some a) (hva : Vis sg a)
    (hG : GivesG X Ng x sg g cdv bg a (X.env.qual ++ "<lambda>") TT) (hgd : X.A.guards = some [])
    (TB : TabB X.base X.mg c P) (hcode : X.env.code = .ref c) (hmT : (P, X.env.qual ++ "<lambda>") ∈ T) (hu : ∀ p ∈ T, p.1 = P → p.2 = X.env.qual ++ "<lambda>") (hr : Room (k + 2) X.A) (L : LamS X.env.scope scope) (hdef : defaultsOf params X.env = ([], []))
    (hbind : ∀ (q : Str) (cl : List (Str × Addr)) (pm cv ctv : Value), bindArgs (PySem.W.kla_fn "<lambda>" q params body scope cl pm cv ctv) ⟨[], []⟩ = pure [])
    (hbody : ∀ (A : Around) (outer : List Env) (s : Shared) (H : Hp) (E : XK) (f c' : Addr), A.guards = some [] → Room k (A.deeper (lamEnv X scope s.heap.objs.size f c')) → PE (lamCx X A outer s H E scope f c') body (t E))
    (hdb : (x == ("__debug__" : Str)) = false := by decide) (hd : (a == ("__debug__" : Str)) = false := by decide) (hcd : (a == ("__classdict__" : Str)) = false := by decide) :
    PE X (.Call (.Name x p) [.Lambda params body scope lpos] [] pos) (tLam T TT t) := by
  refine ⟨fun pins s σ H Q I h => ?_⟩
  obtain ⟨hT, h⟩ := h
  refine wpAny_Call_Name_kw (ld_glob I hg hm ?_ hdb)
  refine PySem.W.callWith_K (h₀ := X.base) I.ok.mod.kin hk ?_ (by rfl) (by rfl)
  show wpAny _ _ (spliced ((false, eval (.Lambda params body scope lpos) X.env) :: backTo pos (starEach [] X.env))) _ _ s
  refine Calls.spliced_cons (lam_make2 I TB hcode hmT hu hT hdef (L.has I.ok) fun f c' pm' ctv H1 s' I1 eN T1 hf hfn hfr hco => ?_)
  refine Calls.spliced_nil ⟨I1.kIn, ?_⟩
  refine wpAny_call (codeAny_mono (R := CR C8.CX0 X.stack X.prog X.w H1 s' Q C8.E0) ?_ fun r s2 hq => ?_)
  · refine run_ofS (N := Ng) (ps := [a]) (us := [.ref f]) (vs := [.ref f]) lk hcg Sg hr I1.env0 (hb s' [.ref f] I1.kIn rfl) (.cons rfl .nil) rfl fun hr' => ?_
    obtain ⟨t', ht', hq'⟩ := hG f c' s' H1 Q (fun E H' Q' => t E σ H' Q') (fun W pn xe p1 p2 tk => pe_actG (i := 0) I1 L hf hfn hfr (hbind _ _ _ _ _) tk hgd hr' (fun A outer s H E hg2 hr2 => hbody A outer s H E f c' hg2 hr2) hNg hva hd hcd) hco (h H1 eN T1)
    exact ⟨t', ht'.nox, hq'⟩
  · cases r with
    | error e => exact (show False from hq).elim
    | ok fl =>
      cases fl with
      | ret u => exact I1.after hq
      | next => exact False.elim hq
      | brk => exact False.elim hq
      | cont => exact False.elim hq
end
end Z

/-! calls of what may raise, where it may be let out. -/
namespace Z
open PySem PySem.Spec PyProof.Rows L2
section
variable {X : Cx} {E : XK} {k j : Nat} {x m : Str} {C : Addr} {ps : List Str} {sp : Sp} {e o : Expr} {es : List Expr} {t : TA} {to : TE} {p pos apos : Pos} {dv : V}
theorem passX (tk : Takes X fun cls d _ H => E cls d H) : Passes (L2.CX X.prog X.w) X E := passes_call tk fun _ _ _ _ h => h
theorem pe_calX (hx : Passes (L2.CX X.prog X.w) X E) (c : Cal X.prog X.w X.K X.mg X.base k x ps sp) (hr : Room j X.A) (hkj : k ≤ j) (hg : Gl X x) (ha : PA X (e :: es) t) (hdb : (x == ("__debug__" : Str)) = false := by decide)
    (he : starEach (e :: es) X.env = (false, eval e X.env) :: starEach es X.env := by rfl) (hpl : (backTo pos (starEach es X.env)).any (·.1) = false := by rfl) : PE X (.Call (.Name x p) (e :: es) [] pos) (tCall sp [] E t) := by
  obtain ⟨f, fd, hm, hk, hb, F⟩ := c.ex
  exact pe_call F (hr.mono hkj) hg hm hk hb .nil hx ha hdb he hpl
theorem pe_mkX (hx : Passes (L2.CX X.prog X.w) X E) (c : Mkr X.prog X.w X.K X.mg X.base k x C ps sp) (hr : Room j X.A) (hkj : k + 1 ≤ j) (hg : Gl X x) (ha : PA X (e :: es) t) (hdb : (x == ("__debug__" : Str)) = false := by decide)
    (he : starEach (e :: es) X.env = (false, eval e X.env) :: starEach es X.env := by rfl) (hpl : (backTo pos (starEach es X.env)).any (·.1) = false := by rfl) : PE X (.Call (.Name x p) (e :: es) [] pos) (tMake C sp [] E t) := by
  obtain ⟨f, fd, hm, hk, hb, F⟩ := c.ex
  exact pe_make hk F (hr.mono hkj) hg hm hb .nil hx ha hdb he hpl
theorem pe_mthX {pl : Sem Bool} (hx : Passes (L2.CX X.prog X.w) X E) (c : Mtd X.prog X.w X.K X.mg X.base k C m ps sp) (hr : Room j X.A) (hkj : k ≤ j) (ho : PE X o to) (ha : PA X (e :: es) t)
    (hst : starEach (e :: es) X.env = (false, eval e X.env) :: starEach es X.env := by rfl) (hpl : (backTo pos (starEach es X.env)).any (·.1) = false := by rfl)
    (ht : eval (.Call (.Attribute o m apos) (e :: es) [] pos) X.env = (do
      let ov ← eval o X.env
      standAt apos.atName
      let (f, first) ← holding [ov] (getMethod ov m pl)
      callWith pos f first (backTo pos (starEach (e :: es) X.env)) (backToKw pos (keywordEach [] X.env))) := by rfl) : PE X (.Call (.Attribute o m apos) (e :: es) [] pos) (tMeth C m sp [] E to t) := by
  obtain ⟨f, fd, hc, hm, hb, F⟩ := c.ex
  exact pe_meth ho hc hm F (hr.mono hkj) hb .nil hx ha hst hpl ht
theorem pe_mth0X {pl : Sem Bool} (hx : Passes (L2.CX X.prog X.w) X E) (c : Mtd X.prog X.w X.K X.mg X.base k C m ps sp) (hr : Room j X.A) (hkj : k ≤ j) (ho : PE X o to)
    (ht : eval (.Call (.Attribute o m apos) [] [] pos) X.env = (do
      let ov ← eval o X.env
      standAt apos.atName
      let (f, first) ← holding [ov] (getMethod ov m pl)
      callWith pos f first (backTo pos (starEach [] X.env)) (backToKw pos (keywordEach [] X.env))) := by rfl) : PE X (.Call (.Attribute o m apos) [] [] pos) (tMeth C m sp [] E to tNil) := by
  obtain ⟨f, fd, hc, hm, hb, F⟩ := c.ex
  exact pe_meth0 ho hc hm F (hr.mono hkj) hb .nil hx ht
theorem pe_mth0 {pl : Sem Bool} (c : Mtd X.prog X.w X.K X.mg X.base k C m ps sp) (hr : Room j X.A) (hkj : k ≤ j) (ho : PE X o to)
    (ht : eval (.Call (.Attribute o m apos) [] [] pos) X.env = (do
      let ov ← eval o X.env
      standAt apos.atName
      let (f, first) ← holding [ov] (getMethod ov m pl)
      callWith pos f first (backTo pos (starEach [] X.env)) (backToKw pos (keywordEach [] X.env))) := by rfl) : PE X (.Call (.Attribute o m apos) [] [] pos) (tMeth C m sp [] E0 to tNil) := by
  obtain ⟨f, fd, hc, hm, hb, F⟩ := c.ex
  exact pe_meth0 ho hc hm F (hr.mono hkj) hb .nil passL ht
/-- raised -/
abbrev raised1 (C : Addr) (f : Str) (v : V) (H : Hp) (E : XK) : Prop := ∀ d H', Ex H H' → H' d = some (.xd [(f, v)]) → E (.ref C) (some d) H'
end
section
variable {P : Program} {w : World} {K : PySem.W.Frag} {mg : Str → Option Value} {base : Heap}
abbrev BodyZ (P : Program) (w : World) (K : PySem.W.Frag) (mg : Str → Option Value) (base : Heap) (k : Nat) (q : Str) (N : List Str) (st : Stmt) (sp : Sp) : Prop :=
  ∀ (f : Addr) (cdv : Value) (A : Around) (outer : List Env) (s : Shared) (H : Hp) (vs : List V) (Q : VK) (E : XK), Room k (A.deeper (envOfC q (defScope st) s.heap.objs.size f cdv)) → sp vs H Q E →
    ∃ t, PSs (cxOf (L2.CX P w) P w K mg base N q (defScope st) f cdv A outer s H E) (defBody st) t ∧ t { nx := fun _ H' => Q .non H', rt := Q } (start N vs) H
theorem Df.calZ {x : Str} {st : Stmt} {N ps : List Str} {k : Nat} {sp : Sp} (D : Df K mg x st) (S : FnScope N ps (defScope st)) (hb : Bnd x x st ps) (len : ∀ vs H Q E, sp vs H Q E → vs.length = ps.length)
    (body : BodyZ P w K mg base k x N st sp) : Cal P w K mg base (k + 1) x ps sp := by
  obtain ⟨f, fd, hm, F⟩ := D.ex
  exact ⟨f, fd, hm, F.kp, F.bindsN hb, F.ok S len fun cdv A outer s H vs Q E hr h => body f cdv A outer s H vs Q E hr h⟩
theorem Dm.mtdZ {C : Addr} {m q : Str} {st : Stmt} {N ps : List Str} {k : Nat} {sp : Sp} (D : Dm K C m q st) (S : FnScope N ps (defScope st)) (hb : Bnd m q st ps) (len : ∀ vs H Q E, sp vs H Q E → vs.length = ps.length)
    (body : BodyZ P w K mg base k q N st sp) : Mtd P w K mg base (k + 1) C m ps sp := by
  obtain ⟨f, fd, hc, hm, F⟩ := D.ex
  exact ⟨f, fd, hc, hm, F.bindsN hb, F.ok S len fun cdv A outer s H vs Q E hr h => body f cdv A outer s H vs Q E hr h⟩
end
end Z

/-! a class called with keywords alone. -/
namespace Z
open PySem PySem.Spec PyProof.Rows L2
structure MkK (P : Program) (w : World) (K : PySem.W.Frag) (mg : Str → Option Value) (base : Heap) (k : Nat) (x : Str) (C : Addr) (ps ks : List Str) (sp : Sp) (gV : List V → List V → List V) : Prop where
  ex : ∃ f fd g, mg x = some (.ref C) ∧ Mk K C f ∧ KBn K fd ps 1 ks g gV ∧ FnOk P w K mg base (L2.CX P w) k f fd ps sp
theorem pe_mkK {X : Cx} {k j : Nat} {x : Str} {C : Addr} {ps ks : List Str} {sp : Sp} {gV : List V → List V → List V} {p pos : Pos} {kws : List Keyword} {tk : TA} (c : MkK X.prog X.w X.K X.mg X.base k x C ps ks sp gV) (hr : Room j X.A) (hkj : k + 1 ≤ j) (hg : Gl X x) (hkw : PK X kws tk)
    (hall : (backToKw pos (keywordEach kws X.env)).all (·.1.isSome) = true := by rfl) (hks : (backToKw pos (keywordEach kws X.env)).filterMap (·.1) = ks := by rfl) (hdb : (x == ("__debug__" : Str)) = false := by decide)
    (hpl : ((backTo pos (starEach [] X.env)).any (·.1) || (backToKw pos (keywordEach kws X.env)).any (·.1.isNone)) = false := by rfl) : PE X (.Call (.Name x p) [] kws pos) (tMakeK C 0 ks.length sp gV E0 tNil tk) := by
  obtain ⟨f, fd, g, hm, hk, hb, F⟩ := c.ex
  exact pe_makeK0 hk F (hr.mono hkj) hg hm hb passL hkw hall hks hdb hpl
end Z

/-! an own method called with keywords alone. -/
namespace Z
open PySem PySem.Spec PyProof.Rows L2
/-- o.m(k = v, ..) -/
def tMethK (C : Addr) (m : Str) (n : Nat) (sp : Sp) (E : XK) (ta : TE) (tk : TA) : TE := fun σ H Q => ta σ H fun x H1 => ∃ a dx fs, x = .ref a ∧ H1 a = some (.ins C dx fs) ∧ fs.lookup m = none ∧ tk σ H1 fun zs H2 => zs.length = n ∧ sp (x :: zs) H2 Q E
theorem kbindsN {K : PySem.W.Frag} {x qual : Str} {params : Arguments} {body : List Stmt} {scope : Scope} {f : Addr} {fd : FuncData} {ps : List Str} (F : FunD K x qual params body scope [] [] f fd) (n : Nat) (ks : List Str)
    (h : ∀ (kV doc pm : Value) (an : Option Addr) (cdv ct : Value) (us ws : List Value), us.length = n → ws.length = ks.length → bindArgs (PySem.W.fnOf x qual params body scope .none kV doc pm an cdv ct) ⟨us, ks.zip ws⟩ = pure (ps.zip (us ++ ws))) :
    KBn K fd ps n ks (fun us ws => us ++ ws) (fun vs zs => vs ++ zs) := by
  obtain ⟨oc, od, dV, kV, doc, pm, an, cdv, ct, osl, rfl, lk, hcd, hD, hK⟩ := F.ex
  rcases hD with ⟨_, rfl⟩ | ⟨e, _⟩
  · exact ⟨fun s us ws _ l1 l2 => .of_eq (h kV doc pm an cdv ct us ws l1 l2), fun r1 r2 => r1.append r2⟩
  · exact absurd rfl e
structure MtK (P : Program) (w : World) (K : PySem.W.Frag) (mg : Str → Option Value) (base : Heap) (k : Nat) (C : Addr) (m : Str) (ps ks : List Str) (sp : Sp) : Prop where
  ex : ∃ f fd, Cls K C ∧ Meth K C m f ∧ KBn K fd ps 1 ks (fun us ws => us ++ ws) (fun vs zs => vs ++ zs) ∧ FnOk P w K mg base (L2.CX P w) k f fd ps sp
theorem pe_mtKX {X : Cx} {E : XK} {k j : Nat} {C : Addr} {m : Str} {ps ks : List Str} {sp : Sp} {pos apos : Pos} {o : Expr} {kws : List Keyword} {ta : TE} {tk : TA} {pl : Sem Bool} (hx : Passes (L2.CX X.prog X.w) X E) (c : MtK X.prog X.w X.K X.mg X.base k C m ps ks sp) (hr : Room j X.A) (hkj : k ≤ j) (he : PE X o ta) (hkw : PK X kws tk)
    (hall : (backToKw pos (keywordEach kws X.env)).all (·.1.isSome) = true := by rfl) (hks : (backToKw pos (keywordEach kws X.env)).filterMap (·.1) = ks := by rfl)
    (hpl : ((backTo pos (starEach [] X.env)).any (·.1) || (backToKw pos (keywordEach kws X.env)).any (·.1.isNone)) = false := by rfl)
    (ht : eval (.Call (.Attribute o m apos) [] kws pos) X.env = (do
      let ov ← eval o X.env
      standAt apos.atName
      let (f, first) ← holding [ov] (getMethod ov m pl)
      callWith pos f first (backTo pos (starEach [] X.env)) (backToKw pos (keywordEach kws X.env))) := by rfl) :
    PE X (.Call (.Attribute o m apos) [] kws pos) (tMethK C m ks.length sp E ta tk) := by
  obtain ⟨f, fd, hc, hm, hb, F⟩ := c.ex
  refine ⟨fun pins s σ H Q I h => ?_⟩
  refine PySem.W.methodCall_KW (pl := pl) (thn (he.run pins s σ H _ I h) fun u s1 ⟨x, H1, I1, rx, a, dx, fs, ex, ea, l, q⟩ => ?_) ht
  subst ex
  obtain rfl : u = Value.ref a := rx
  refine getmeth_ok I1 ea hc hm l ?_
  refine PySem.W.callWith_KW0 (first := [.ref a]) (h₀ := X.base) I1.ok.mod.kin hm.kp hall ?_ hpl
  refine thn (hkw.run pos pins s1 σ H1 _ I1 q) fun ws s2 ⟨zs, H2, I2, rz, l2, q2⟩ => ⟨I2.kIn, ?_⟩
  rw [hks]
  exact run_fnN (us := [.ref a]) (vs := [.ref a]) F (hr.mono hkj) hb hx I2 (.cons rfl .nil) rz rfl l2 q2
end Z

/-! an own def called with keywords alone. -/
namespace Z
open PySem PySem.Spec PyProof.Rows L2
/-- f(k = v, ..): gV puts the values in the def's order -/
def tCallKw (n : Nat) (sp : Sp) (gV : List V → List V) (E : XK) (tk : TA) : TE := fun σ H Q => tk σ H fun zs H1 => zs.length = n ∧ sp (gV zs) H1 Q E
structure CalK (P : Program) (w : World) (K : PySem.W.Frag) (mg : Str → Option Value) (base : Heap) (k : Nat) (x : Str) (ps ks : List Str) (sp : Sp) (gV : List V → List V) : Prop where
  ex : ∃ (f : Addr) (fd : FuncData) (g : List Value → List Value), mg x = some (.ref f) ∧ PySem.W.keepIn K (.ref f) = true ∧ KBn K fd ps 0 ks (fun _ ws => g ws) (fun _ zs => gV zs) ∧ FnOk P w K mg base (L2.CX P w) k f fd ps sp
theorem kbinds0 {K : PySem.W.Frag} {x qual : Str} {params : Arguments} {body : List Stmt} {scope : Scope} {f : Addr} {fd : FuncData} {ps : List Str} (F : FunD K x qual params body scope [] [] f fd) (ks : List Str) (g : List Value → List Value) (gV : List V → List V)
    (h : ∀ (kV doc pm : Value) (an : Option Addr) (cdv ct : Value) (ws : List Value), ws.length = ks.length → bindArgs (PySem.W.fnOf x qual params body scope .none kV doc pm an cdv ct) ⟨[], ks.zip ws⟩ = pure (ps.zip (g ws)))
    (hr : ∀ (zs : List V) (ws : List Value), Vals zs ws → Vals (gV zs) (g ws)) : KBn K fd ps 0 ks (fun _ ws => g ws) (fun _ zs => gV zs) := by
  obtain ⟨oc, od, dV, kV, doc, pm, an, cdv, ct, osl, rfl, lk, hcd, hD, hK⟩ := F.ex
  rcases hD with ⟨_, rfl⟩ | ⟨e, _⟩
  · refine ⟨fun s us ws _ l1 l2 => ?_, fun _ r2 => hr _ _ r2⟩
    cases us with
    | nil => exact .of_eq (h kV doc pm an cdv ct ws l2)
    | cons u us => cases l1
  · exact absurd rfl e
section
variable {P : Program} {w : World} {K : PySem.W.Frag} {mg : Str → Option Value} {base : Heap}
theorem Df.calK {x : Str} {st : Stmt} {N ps : List Str} {k : Nat} {sp : Sp} (D : Df K mg x st) (S : FnScope N ps (defScope st)) (ks : List Str) (g : List Value → List Value) (gV : List V → List V)
    (hb : ∀ (kV doc pm : Value) (an : Option Addr) (cdv ct : Value) (ws : List Value), ws.length = ks.length → bindArgs (PySem.W.fnOf x x (defArgs st) (defBody st) (defScope st) .none kV doc pm an cdv ct) ⟨[], ks.zip ws⟩ = pure (ps.zip (g ws)))
    (hr : ∀ (zs : List V) (ws : List Value), Vals zs ws → Vals (gV zs) (g ws)) (len : ∀ vs H Q E, sp vs H Q E → vs.length = ps.length)
    (body : BodyZ P w K mg base k x N st sp) : CalK P w K mg base (k + 1) x ps ks sp gV := by
  obtain ⟨f, fd, hm, F⟩ := D.ex
  exact ⟨f, fd, g, hm, F.kp, kbinds0 F ks g gV hb hr, F.ok S len fun cdv A outer s H vs Q E hr h => body f cdv A outer s H vs Q E hr h⟩
end
theorem pe_calKX {X : Cx} {E : XK} {k j : Nat} {x : Str} {ps ks : List Str} {sp : Sp} {gV : List V → List V} {p pos : Pos} {kws : List Keyword} {tk : TA} (hx : Passes (L2.CX X.prog X.w) X E) (c : CalK X.prog X.w X.K X.mg X.base k x ps ks sp gV) (hr : Room j X.A) (hkj : k ≤ j) (hg : Gl X x) (hkw : PK X kws tk)
    (hall : (backToKw pos (keywordEach kws X.env)).all (·.1.isSome) = true := by rfl) (hks : (backToKw pos (keywordEach kws X.env)).filterMap (·.1) = ks := by rfl) (hdb : (x == ("__debug__" : Str)) = false := by decide)
    (hpl : ((backTo pos (starEach [] X.env)).any (·.1) || (backToKw pos (keywordEach kws X.env)).any (·.1.isNone)) = false := by rfl) : PE X (.Call (.Name x p) [] kws pos) (tCallKw ks.length sp gV E tk) := by
  obtain ⟨f, fd, g, hm, hk, hb, F⟩ := c.ex
  refine ⟨fun pins s σ H Q I h => ?_⟩
  refine wpAny_Call_Name_kw (ld_glob I hg hm ?_ hdb)
  refine PySem.W.callWith_KW0 (first := []) (h₀ := X.base) I.ok.mod.kin hk hall ?_ hpl
  refine thn (hkw.run pos pins s σ H _ I h) fun ws s2 ⟨zs, H2, I2, rz, l2, q2⟩ => ⟨I2.kIn, ?_⟩
  rw [hks]
  exact run_fnN (us := []) (vs := []) F (hr.mono hkj) hb hx I2 .nil rz rfl l2 q2
end Z

/-! an own object against any value; bool of a tuple and of an own object. -/
namespace Z
open PySem PySem.Spec PyProof.Rows L2
/-- a value's type is looked up as told -/
theorem ty_looks {X : Cx} {pins : List (Addr × Obj)} {σ : L2.St} {H : Hp} {s : Shared} {x : V} {u t : Value} (I : L2.Inv X pins σ H s) (rx : RelV x u) (ty : TyX X.K H x t) : PySem.W.Looks (model X.prog X.w) s.heap (typeOf u) t := by
  have rf : ∀ {a : Addr} {o : Obj} {t : Value}, s.heap.get? a = some o → o.cls = t → PySem.W.Looks (model X.prog X.w) s.heap (typeOf (.ref a)) t := fun {a o t} h1 h2 A Q E s' k q => wpAny_typeOf_ref (k _ _ h1) (by rw [h2]; exact q)
  have ob : ∀ {b : Addr} {z : HO}, H b = some z → ObjOk X.prog X.w H s.heap b z := fun e => I.hok _ _ e
  cases ty with
  | base b =>
    cases b with
    | non =>
      cases (rx : u = Value.none)
      exact .of_pure rfl
    | bl y =>
      cases (rx : u = Value.bool y)
      exact .of_pure rfl
    | int i =>
      obtain ⟨tk, e⟩ := (rx : ∃ tk, u = Value.int i tk)
      subst e
      exact .of_pure rfl
    | str y =>
      obtain ⟨tk, e⟩ := (rx : ∃ tk, u = Value.str y tk)
      subst e
      exact .of_pure rfl
    | flt y =>
      obtain ⟨tk, e⟩ := (rx : ∃ tk, u = Value.float y tk)
      subst e
      exact .of_pure rfl
    | @lst a xs e1 =>
      cases (rx : u = Value.ref a)
      obtain ⟨_, its, n, _, g⟩ := ob e1
      exact rf g rfl
    | @frz a oo xs e1 =>
      cases (rx : u = Value.ref a)
      obtain ⟨_, _, its, n, _, g⟩ := ob e1
      exact rf g rfl
    | @tup a xs e1 =>
      cases (rx : u = Value.ref a)
      obtain ⟨_, its, _, oo, g, g2, _⟩ := ob e1
      exact rf g g2
    | @dK a kvs e1 =>
      cases (rx : u = Value.ref a)
      obtain ⟨_, _, ws, _, oo, es, ep, g, g2, _⟩ := ob e1
      exact rf g g2.1
    | @dT a kvs e1 =>
      cases (rx : u = Value.ref a)
      obtain ⟨_, _, ws, _, oo, es, ep, g, g2, _⟩ := ob e1
      exact rf g g2.1
    | @ins a D dx fs e1 cl ha hn htk hm =>
      cases (rx : u = Value.ref a)
      obtain ⟨mA, O, _⟩ := ins_get I.hok e1
      obtain ⟨od, J, _⟩ := O.look
      exact J.type
  | byt y =>
    obtain ⟨tk, e⟩ := (rx : ∃ tk, u = Value.bytes y tk)
    subst e
    exact .of_pure rfl
  | @set a S n e1 =>
    cases (rx : u = Value.ref a)
    obtain ⟨oo, _, _, _, g, g2, _⟩ := ob e1
    exact rf g g2.1
  | @kList a oo e1 c =>
    cases (rx : u = Value.ref a)
    exact rf (I.kIn a oo e1) c
  | @kTuple a oo e1 c =>
    cases (rx : u = Value.ref a)
    exact rf (I.kIn a oo e1) c
  | @kDict a oo e1 c =>
    cases (rx : u = Value.ref a)
    exact rf (I.kIn a oo e1) c
  | @fTuple a ob2 xs e1 =>
    cases (rx : u = Value.ref a)
    obtain ⟨_, z2⟩ := ob e1
    obtain ⟨_, its, _, oo, g, g2, _⟩ := z2
    exact rf g g2
  | @fDict a ob2 kvs e1 =>
    cases (rx : u = Value.ref a)
    obtain ⟨_, z2⟩ := ob e1
    obtain ⟨_, _, ws, _, oo, es, ep, g, g2, _⟩ := z2
    exact rf g g2.1
section
variable {X : Cx} {C : Addr} {k : Nat} {sp : Sp}
/-- x == y, x an instance of C, y any value whose class is not below C -/
def rEqX (K : PySem.W.Frag) (C : Addr) (sp : Sp) (neg : Bool) : R2 := fun x y H Q => ∃ a dx fs t, x = .ref a ∧ H a = some (.ins C dx fs) ∧ TyX K H y t ∧ PySem.W.notFirst K C t = true ∧ sp [.ref a, y] H (fun v H' => ∃ c, v = .bl c ∧ Q (.bl (c != neg)) H') E0
theorem op_eqX (c : Mtd X.prog X.w X.K X.mg X.base k C "__eq__" ["self", "other"] sp) {j : Nat} (hr : Room j X.A) (hj : k ≤ j) : OpR X (compareOp .Eq) (rEqX X.K C sp false) := by
  intro pins s σ H x y v u Q I rx ry h
  obtain ⟨a, dx, fs, t, rfl, ea, hy, hnf, q⟩ := h
  obtain ⟨f, fd, hc, hm, hb, F⟩ := c.ex
  cases rx
  obtain ⟨mA, O, _⟩ := ins_get I.hok ea
  obtain ⟨od, J, _⟩ := O.look
  obtain ⟨m, fr⟩ := I.fr
  show wpAny _ _ (richCompare .Eq (.ref a) u) _ _ s
  refine PySem.W.cmp_K hr.units0 fr I.ok.mod.kin J (ty_looks I ry hy) hnf hm.at_ hm.fn ?_
  refine wpAny_mono (run_own (vs := [.ref a, y]) F hb (hr.mono hj) I (.cons rfl (.cons ry .nil)) rfl q) (fun w s' hw => ?_) fun _ _ z => z
  obtain ⟨v2, H', I2, r2, c, rfl, q2⟩ := hw
  cases r2
  refine ⟨.bl c, H', I2, rfl, ?_⟩
  have : (c != false) = c := by cases c <;> rfl
  rwa [this] at q2
theorem op_neX (c : Mtd X.prog X.w X.K X.mg X.base k C "__eq__" ["self", "other"] sp) (n : NeC X.K C) {j : Nat} (hr : Room j X.A) (hj : k + 1 ≤ j) : OpR X (compareOp .NotEq) (rEqX X.K C sp true) := by
  intro pins s σ H x y v u Q I rx ry h
  obtain ⟨a, dx, fs, t, rfl, ea, hy, hnf, q⟩ := h
  obtain ⟨f, fd, hc, hm, hb, F⟩ := c.ex
  cases rx
  obtain ⟨mA, O, _⟩ := ins_get I.hok ea
  obtain ⟨od, J, _⟩ := O.look
  have hl := ty_looks I ry hy
  show wpAny _ _ (richCompare .NotEq (.ref a) u) _ _ s
  rw [richCompare.eq_1]
  refine wpAny_holding (wpAny_bind (wpAny_cRoomFor hr.units0 ?_))
  refine wpAny_bind (J.type.here ?_)
  refine wpAny_bind (hl.here ?_)
  have one : wpAny (model X.prog X.w) X.A (tryCompare (.ref a) "__ne__" u) (fun r s' => ∃ v, r = some v ∧ EP X pins σ Q v s') X.xe s := by
    rw [tryCompare.eq_1]
    refine wpAny_bind (ifBound_objNe I.kIn J n ?_)
    refine wpAny_call (codeAny_call_builtin (CmpFacts.ne PySem.F.cmp_object).plain PySem.F.cmpEntry_ne ?_)
    refine PySem.W.check_slot PySem.F.cmpKind_ne PySem.F.cmpSplit_ne ((J.type).andThen (PySem.W.looks_mroIn I.kIn n.ob)) (PySem.F.cmpArgs_ne _ _) ?_
    unfold Builtin.«object.__ne__»
    refine wpAny_bind (wpAny_of_eq (a := (.ref a, [u])) (by rfl) ?_)
    have hr1 : Room (k + 1) X.A := hr.mono hj
    refine wpAny_bind (wpAny_cRoomFor hr1.in1.units0 ?_)
    refine wpAny_bind (PySem.W.ifBound_K I.kIn J hm.at_ hm.fn ?_)
    refine wpAny_mono (run_own1 (vs := [.ref a, y]) F hb hr1 I (.cons rfl (.cons ry .nil)) rfl q) (fun w s' hw => ?_) fun _ _ z => z
    obtain ⟨v2, H', I2, r2, c, rfl, q2⟩ := hw
    cases r2
    refine wpAny_bind (wpAny_truthy_bool ?_)
    refine wpAny_pure ?_
    refine wpAny_pure ?_
    refine ⟨_, rfl, .bl (!c), H', I2, rfl, ?_⟩
    have : (c != true) = !c := by cases c <;> rfl
    rwa [this] at q2
  by_cases ht : t = .ref C
  · subst ht
    simp only [bne_self_eq_false, Bool.false_eq_true, if_false]
    refine wpAny_bind (wpAny_pure ?_)
    simp only [Bool.false_eq_true, if_false]
    refine wpAny_bind (wpAny_mono one (fun r s2 hz => ?_) fun _ _ q => q)
    obtain ⟨v2, rfl, hv⟩ := hz
    exact wpAny_pure hv
  · have hsub : PySem.W.subIn X.K t (.ref C) = some false := by
      rcases Bool.or_eq_true_iff.mp hnf with e | e
      · exact (ht (beq_iff_eq.mp e)).elim
      · exact beq_iff_eq.mp e
    have hb2 : (Value.ref C != t) = true := bne_iff_ne.mpr fun e => ht e.symm
    rw [hb2]
    simp only [if_true]
    refine wpAny_bind ((PySem.W.looks_subIn I.kIn hsub).here ?_)
    simp only [Bool.false_eq_true, if_false]
    refine wpAny_bind (wpAny_mono one (fun r s2 hz => ?_) fun _ _ q => q)
    obtain ⟨v2, rfl, hv⟩ := hz
    exact wpAny_pure hv
/-! ### bool -/
theorem meets_bool_any {prog : Program} {w : World} (x : Value) : MeetsIn prog w (Builtin.«bool.__new__» ⟨[.type "bool", x], []⟩) (fun A R s => wpAny (model prog w) A.in1 (truthy x) (fun b s2 => R (.ok (.ret (.bool b))) s2) (fun e s2 => R (.error e) s2) s) := by
  intro A R s hs
  obtain ⟨hp, g, d, tk, os⟩ := s
  have f1 := F.conv_sub_bool
  repeat (any_goals (first | assumption | (refine wpAny_bind (wpAny_mono hs (fun b s2 hb => ?_) fun _ _ q => q)) | wp_step))
/-- bool(t), t a tuple -/
def rBoolT (K : PySem.W.Frag) : List V → Hp → VK → Prop := fun xs H Q => ∃ (a : Addr) (zs : List V), xs = [.ref a] ∧ SqT K H a zs ∧ Q (.bl (!zs.isEmpty)) H
theorem call_boolT {X : Cx} : CallR X (.type "bool") (rBoolT X.K) := by
  intro pins s σ H xs us Q I r h
  obtain ⟨a, zs, rfl, hq, q⟩ := h
  obtain rfl := Vals.ref1 r
  obtain ⟨its, rv, pl, hz⟩ := I.tuple hq
  have hl := line63
  have hlen := rv.length
  refine callType_newIn F.called_bool F.newNe_bool (F.typeCall_bool_1 _) (F.newCall_bool_1 _) (fun obj => F.args_object_init_2 obj _) F.entry_bool_new (meets_bool_any _) ?_
  refine truthy_tuple pl (by simp only [List.size_toArray]; omega) ?_
  refine ⟨rfl, .bl (!zs.isEmpty), H, I.tok _, ?_, q⟩
  rw [isEmpty_of rv]
  rfl
end
section
variable {X : Cx} {C : Addr} {k : Nat} {sp : Sp}
/-- bool(x), x an instance of C -/
def rBoolO (C : Addr) (sp : Sp) : List V → Hp → VK → Prop := fun xs H Q => ∃ x dx fs, xs = [.ref x] ∧ H x = some (.ins C dx fs) ∧ sp [.ref x] H (fun v H' => ∃ b, v = .bl b ∧ Q (.bl b) H') E0
theorem call_boolO (c : Mtd X.prog X.w X.K X.mg X.base k C "__bool__" ["self"] sp) {j : Nat} (hr : Room j X.A) (hj : k + 2 ≤ j) : CallR X (.type "bool") (rBoolO C sp) := by
  intro pins s σ H xs us Q I r h
  obtain ⟨x, dx, fs, rfl, ea, q⟩ := h
  obtain ⟨f, fd, hc, hm, hb, Fn⟩ := c.ex
  obtain rfl := Vals.ref1 r
  obtain ⟨mA, O, _⟩ := ins_get I.hok ea
  obtain ⟨od, J, _⟩ := O.look
  obtain ⟨m, fr⟩ := I.fr
  refine callType_newIn F.called_bool F.newNe_bool (F.typeCall_bool_1 _) (F.newCall_bool_1 _) (fun obj => F.args_object_init_2 obj _) F.entry_bool_new (meets_bool_any _) ?_
  refine PySem.W.truthy_K fr I.ok.mod.kin J hm.at_ hm.fn ?_
  have hb2 := hb s [.ref x] I.kIn (by rw [List.append_nil]; rfl)
  rw [List.append_nil] at hb2
  have hr2 : Room (k + 2) X.A := hr.mono hj
  refine wpAny_call (codeAny_mono (Fn.run X.A.in1.in1 X.stack s H ⟨[.ref x], []⟩ [.ref x] [.ref x] _ E0 hr2.in1.in1 I.env0.in1.in1 hb2 (.cons rfl .nil) q) fun r2 s2 hq => ?_)
  cases r2 with
  | error er =>
    obtain ⟨_, _, _, _, _, _, _, _, _, _, _, _, z⟩ := (show L2.CX X.prog X.w X.stack H s E0 er s2 from hq)
    exact z.elim
  | ok fl =>
    cases fl with
    | ret u =>
      obtain ⟨v2, H2, I2, r3, b, rfl, q2⟩ := I.after hq
      cases r3
      exact ⟨rfl, .bl b, H2, I2, rfl, q2⟩
    | next => exact False.elim hq
    | brk => exact False.elim hq
    | cont => exact False.elim hq
end
end Z

namespace Z
open PySem PySem.Spec PyProof.Rows L2
section
variable {K : PySem.W.Frag} {g : TG} {te tl : TE} {ta : TA} {tt : TT} {σ : L2.St} {H : Hp} {Q : VK}
/-- [f k for k in range(n) if p k] -/
theorem lcFMR {j : Nat} (n : Nat) (ht : ∀ R : List V → Hp → Prop, R [.int (n : Int)] H → ta σ H R) (hn : n ≤ 90000) (hj : j < σ.length) (p : Nat → Bool) (f : Nat → V)
    (hs : ∀ (i : Nat) (H' : Hp) (F : Bool → Hp → Prop), i < n → Ex H H' → (∀ H3, Ex H' H3 → F (p i) H3) → tt ((wipe σ [j]).set j (some (.int (i : Int)))) H' F)
    (he : ∀ (i : Nat) (H' : Hp) (Q' : VK), i < n → p i = true → Ex H H' → (∀ H3, Ex H' H3 → Q' (f i) H3) → te ((wipe σ [j]).set j (some (.int (i : Int)))) H' Q')
    (k : ∀ D H', H D = none → Ex H H' → H' D = some (.lst (((List.range n).filter p).map f)) → Q (.ref D) H') : tLc (iRng1 ta) (gName j) tt te [j] σ H Q := by
  refine ht _ ⟨(n : Int), rfl, by omega, by omega, fun D hD => ?_⟩
  refine lc_it (walk_range (lo := 0) (n := n)) (fun i H' => i ≤ n ∧ Ex H H' ∧ H' D = some (.lst (((List.range i).filter p).map f))) ⟨by omega, .new hD, upd_same⟩ (fun _ _ _ _ => trivial) ?_ ?_
  · rintro i x H' H'' hi ⟨_, q1, q2⟩ ⟨e, hx⟩
    subst e
    have e0 : (0 : Int) + (i : Int) = (i : Int) := Int.zero_add _
    have hx2 : x = .int (i : Int) := by rw [hx]; exact congrArg V.int e0
    subst hx2
    refine ⟨?_, ?_⟩
    · show ((wipe σ []).set j none |>.set j (some _)).set j none = (wipe σ []).set j none
      rw [List.set_set, List.set_set]
    · have hl : ((List.range i).filter p).length ≤ i := by
        have h1 := List.length_filter_le p (List.range i)
        rwa [List.length_range] at h1
      refine hs i _ _ hi q1 fun H3 e3 => ?_
      have e4 := e3.get q2
      cases hp : p i
      · refine iteF ⟨by omega, q1.trans e3, ?_⟩
        rw [List.range_succ, List.filter_append, List.filter_cons, hp]
        simpa using e4
      · refine iteT (he i H3 _ hi hp (q1.trans e3) fun H4 e5 => ?_)
        have e6 := e5.get e4
        refine ⟨_, e6, smallt (by rw [List.length_map]; omega), by omega, ((q1.trans e3).trans e5).put e6 (.inl hD), ?_⟩
        rw [upd_same, List.range_succ, List.filter_append, List.filter_cons, hp]
        simp
  · rintro H' ⟨_, q1, q2⟩
    exact k D H' hD q1 q2
end
end Z

/-! heaps that grow, whatever the tables of code objects are written: where lambdas are made. -/
namespace Z
open PySem PySem.Spec PyProof.Rows L2 LamX
def Gx (m : Addr → Prop) (H H' : Hp) : Prop := ∀ b o, H b = some o → (∀ ps, o ≠ .tbl ps) → H' b = some o ∨ (m b ∧ ∃ o', Alt o o' ∧ H' b = some o')
section
variable {m n : Addr → Prop} {H H' H'' : Hp} {a b p : Addr} {o o' : HO} {K : PySem.W.Frag} {T : List (Addr × Str)}
theorem Alt.nt (h : Alt o o') (ps : Array Value) : o' ≠ .tbl ps := fun z => by
  rcases h with ⟨_, _, _, rfl⟩ | ⟨_, _, _, _, _, rfl⟩ <;> cases z
theorem Gr.x (e : Gr m H H') : Gx m H H' := fun b o h _ => e b o h
theorem Gx.refl : Gx m H H := fun _ _ h _ => .inl h
theorem Gx.ext (e : ExtN H H') : Gx m H H' := fun b o h q => .inl (e b o h q)
theorem Gx.trans (e : Gx m H H') (f : Gx m H' H'') : Gx m H H'' := fun c o h q => by
  rcases e c o h q with h | ⟨h1, o1, h2, h3⟩
  · exact f c o h q
  · rcases f c _ h3 h2.nt with h | ⟨_, o2, h4, h5⟩
    · exact .inr ⟨h1, o1, h2, h⟩
    · exact .inr ⟨h1, o2, h2.trans h4, h5⟩
theorem Gx.up (h : Gx m H H') (w : ∀ a, m a → n a) : Gx n H H' := fun b o e q => (h b o e q).imp id fun ⟨h1, h2⟩ => ⟨w b h1, h2⟩
theorem Gx.of (h : Gx nob H H') : Gx m H H' := h.up fun _ z => z.elim
theorem Gx.at (e : Gx m H H') (h : H a = some o) (q : ¬ m a) (t : ∀ ps, o ≠ .tbl ps) : H' a = some o := (e a o h t).elim id fun ⟨z, _⟩ => (q z).elim
theorem Gx.lst {xs : List V} (e : Gx m H H') (h : H a = some (.lst xs)) (q : ¬ m a) : H' a = some (.lst xs) := e.at h q fun _ z => by cases z
theorem Gx.ins {C dx : Addr} {fs : List (Str × V)} (e : Gx m H H') (h : H a = some (.ins C dx fs)) (q : ¬ m a) : H' a = some (.ins C dx fs) := e.at h q fun _ z => by cases z
theorem Gx.tup {xs : List V} (e : Gx m H H') (h : H a = some (.tup xs)) : H' a = some (.tup xs) := by
  rcases e a _ h (fun _ z => by cases z) with z | ⟨_, _, z, _⟩
  · exact z
  · rcases z with ⟨_, _, q, _⟩ | ⟨_, _, _, _, q, _⟩ <;> cases q
theorem Gx.frz {ob : Obj} {u : HO} (e : Gx m H H') (h : H a = some (.frz ob u)) : H' a = some (.frz ob u) := by
  rcases e a _ h (fun _ z => by cases z) with z | ⟨_, _, z, _⟩
  · exact z
  · rcases z with ⟨_, _, q, _⟩ | ⟨_, _, _, _, q, _⟩ <;> cases q
theorem Gx.seqT {xs : List V} (e : Gx m H H') (h : SqT K H a xs) : SqT K H' a xs := by
  rcases h with (h | ⟨o, h⟩) | h
  · exact .inl (.inl (e.tup h))
  · exact .inl (.inr ⟨o, e.frz h⟩)
  · exact .inr h
theorem Gx.seqL {xs : List V} (e : Gx m H H') (h : SqL K H a xs) (q : ¬ m a) : SqL K H' a xs := by
  rcases h with (h | ⟨o, h⟩) | h
  · exact .inl (.inl (e.lst h q))
  · exact .inl (.inr ⟨o, e.frz h⟩)
  · exact .inr h
/-- tables stay what they are while no lambda is made -/
theorem TabS.gr {q : Str} (t : TabS H a q) (e : Gr m H H') : TabS H' a q := by
  obtain ⟨ps, h1, h2, h3⟩ := t
  refine ⟨ps, e.still h1 rfl, h2, fun pos cv hc => ?_⟩
  obtain ⟨c, e1, e2⟩ := h3 pos cv hc
  exact ⟨c, e1, e.still e2 rfl⟩
theorem Tabs.gr (t : Tabs T H) (e : Gr m H H') : Tabs T H' := fun p hp => TabS.gr (t p hp) e
/-- a thing that H did not know may change -/
theorem Gx.fresh (e : Gr nob H H') (h : H p = none) (f : Gx (· = p) H' H'') : Gx nob H H'' := fun b o hb q => by
  rcases f b o (e.get hb) q with z | ⟨z, _⟩
  · exact .inl z
  · rw [z, h] at hb
    cases hb
theorem Gx.put {xs : List V} (e : Gx m H H') (hp : H p = none) : Gx m H (upd H' p (.lst xs)) := fun b o h q => by
  have hb : b ≠ p := fun z => by
    rw [z, hp] at h
    cases h
  rw [upd_ne hb]
  exact e b o h q
theorem Tabs.put {xs ys : List V} (t : Tabs T H) (hp : H p = some (.lst xs)) : Tabs T (upd H p (.lst ys)) := Tabs.gr (m := any) t (Gr.refl.put hp (.inr trivial))
theorem Tabs.start (h : ∀ p ∈ T, H p.1 = some (.tbl #[])) : Tabs T H := fun p hp => .nil (h p hp)
end
section
variable {te : TE} {ta : TA} {σ : L2.St} {H : Hp} {Q : VK} {T : List (Addr × Str)}
/-- [f i for i in range(n)] of truths, lambdas made within -/
theorem lcTX {j : Nat} (n : Nat) (ht : ∀ R : List V → Hp → Prop, R [.int (n : Int)] H → ta σ H R) (hn : n ≤ 90000) (hT : Tabs T H)
    (hs : ∀ (i : Nat) (H' : Hp) (Q' : VK), i < n → Gx nob H H' → Tabs T H' → (∀ H3, Gx nob H' H3 → Tabs T H3 → Q' (.bl true) H3) → te ((wipe σ [j]).set j (some (.int (i : Int)))) H' Q')
    (k : ∀ D H', Gx nob H H' → Tabs T H' → H' D = some (.lst (List.replicate n (.bl true))) → Q (.ref D) H') : tLc (iRng1 ta) (gName j) tYes te [j] σ H Q := by
  refine ht _ ⟨(n : Int), rfl, by omega, by omega, fun D hD => ?_⟩
  refine lc_it (walk_range (lo := 0) (n := n)) (fun i H' => i ≤ n ∧ Gx nob H H' ∧ Tabs T H' ∧ H' D = some (.lst (List.replicate i (.bl true)))) ⟨by omega, (Gr.new hD).x, Tabs.gr (m := nob) hT (Gr.new hD), upd_same⟩ (fun _ _ _ _ => trivial) ?_ ?_
  · rintro i x H' H'' hi ⟨_, q1, q2, q3⟩ ⟨e, hx⟩
    subst e
    have e0 : (0 : Int) + (i : Int) = (i : Int) := Int.zero_add _
    have hx2 : x = .int (i : Int) := by rw [hx]; exact congrArg V.int e0
    subst hx2
    refine ⟨?_, ?_⟩
    · show ((wipe σ []).set j none |>.set j (some _)).set j none = (wipe σ []).set j none
      rw [List.set_set, List.set_set]
    · unfold tYes
      show te _ _ _
      refine hs i _ _ hi q1 q2 fun H3 x3 t3 => ?_
      have f3 := x3.lst q3 id
      refine ⟨_, f3, smallt (by rw [List.length_replicate]; omega), by omega, (q1.trans x3).put hD, Tabs.put t3 f3, ?_⟩
      rw [upd_same, List.replicate_succ']
  · rintro H' ⟨_, q1, q2, q3⟩
    exact k D H' q1 q2 q3
end
end Z

/-! == and != of two tuples whose items are flat, or the same object at the same place. -/
namespace Z
open PySem PySem.Spec PyProof.Rows L2
/-- two items, and whether they are equal -/
inductive Eq1 : V → V → Bool → Prop
  | flat {x y : V} : flatV x = true → flatV y = true → Eq1 x y (eqV x y)
  | same {v : V} : (flatV v = true ∨ ∃ a, v = .ref a) → Eq1 v v true
inductive EqXs : List V → List V → List Bool → Prop
  | nil : EqXs [] [] []
  | cons {x y : V} {b : Bool} {xs ys : List V} {bs : List Bool} : Eq1 x y b → EqXs xs ys bs → EqXs (x :: xs) (y :: ys) (b :: bs)
theorem EqXs.len {xs ys : List V} {bs : List Bool} (h : EqXs xs ys bs) : xs.length = bs.length ∧ ys.length = bs.length := by
  induction h with
  | nil => exact ⟨rfl, rfl⟩
  | cons _ _ ih => exact ⟨by rw [List.length_cons, List.length_cons, ih.1], by rw [List.length_cons, List.length_cons, ih.2]⟩
theorem EqXs.get {xs ys : List V} {bs : List Bool} (h : EqXs xs ys bs) : ∀ {i : Nat} {x y : V}, xs[i]? = some x → ys[i]? = some y → Eq1 x y (bs.getD i false) := by
  induction h with
  | nil =>
    intro i x y h1
    simp at h1
  | cons h1 _ ih =>
    intro i x y e1 e2
    cases i with
    | zero =>
      cases e1
      cases e2
      exact h1
    | succ i => exact ih e1 e2
theorem eqV_self {v : V} (h : flatV v = true) : eqV v v = true := by
  cases v <;> first | (simp [eqV]; done) | cases h
theorem Eq1.at {A : Around} {s : Shared} {x y : V} {b : Bool} {u v : Value} (h : Eq1 x y b) (rx : RelV x u) (ry : RelV y v) : SeqAt.EqAt A s u v b := by
  cases h with
  | flat h1 h2 => exact eqAt_V rx ry h1 h2
  | same hz =>
    rcases hz with hz | ⟨a, rfl⟩
    · have q := eqAt_V (A := A) (s := s) rx ry hz hz
      rwa [eqV_self hz] at q
    · cases rx
      cases ry
      exact SeqAt.EqAt.same _
theorem all_getD : ∀ bs : List Bool, (List.range bs.length).all (fun j => bs.getD j false) = bs.all id := fun bs => by
  rw [Bool.eq_iff_iff, List.all_eq_true, List.all_eq_true]
  constructor
  · intro h b hb
    obtain ⟨i, hi, rfl⟩ := List.getElem_of_mem hb
    have := h i (List.mem_range.mpr hi)
    rw [List.getD_eq_getElem?_getD, List.getElem?_eq_getElem hi] at this
    exact this
  · intro h i hi
    have hi2 := List.mem_range.mp hi
    rw [List.getD_eq_getElem?_getD, List.getElem?_eq_getElem hi2]
    exact h _ (List.getElem_mem hi2)
/-- x == y, x != y -/
def rTX (K : PySem.W.Frag) (neg : Bool) : R2 := fun x y H Q => ∃ (a b : Addr) (xs ys : List V) (bs : List Bool), x = .ref a ∧ y = .ref b ∧ SqT K H a xs ∧ SqT K H b ys ∧ EqXs xs ys bs ∧ Q (.bl (bs.all id != neg)) H
section
variable {X : Cx}
theorem tx_parts {pins : List (Addr × Obj)} {σ : L2.St} {H : Hp} {s : Shared} {a b : Addr} {xs ys : List V} {bs : List Bool} (I : L2.Inv X pins σ H s) (ha : SqT X.K H a xs) (hb : SqT X.K H b ys) (h : EqXs xs ys bs) :
    ∃ p q : Array Value, s.heap.IsTuple a p ∧ s.heap.IsTuple b q ∧ p.size = bs.length ∧ q.size = bs.length ∧ ∀ (A : Around) j (h1 : j < p.size) (h2 : j < q.size), SeqAt.EqAt A s p[j] q[j] (bs.getD j false) := by
  obtain ⟨its, r, e, _⟩ := I.tuple ha
  obtain ⟨its2, r2, e2, _⟩ := I.tuple hb
  have l1 := h.len.1
  have l2 := h.len.2
  have m1 := r.length
  have m2 := r2.length
  refine ⟨its.toArray, its2.toArray, e, e2, by rw [List.size_toArray, ← m1, l1], by rw [List.size_toArray, ← m2, l2], fun A j h1 h2 => ?_⟩
  have k1 : j < its.length := by simpa using h1
  have k2 : j < its2.length := by simpa using h2
  obtain ⟨u, hu, ru⟩ := r.get (List.getElem?_eq_getElem (by omega : j < xs.length))
  obtain ⟨v, hv, rv⟩ := r2.get (List.getElem?_eq_getElem (by omega : j < ys.length))
  rw [List.getElem?_eq_getElem k1] at hu
  rw [List.getElem?_eq_getElem k2] at hv
  cases hu
  cases hv
  have q := (h.get (List.getElem?_eq_getElem (by omega : j < xs.length)) (List.getElem?_eq_getElem (by omega : j < ys.length))).at (A := A) (s := s) ru rv
  simpa using q
theorem tx_all {bs : List Bool} {n m : Nat} (h1 : n = bs.length) (h2 : m = bs.length) : ((List.range (min n m)).all (fun j => bs.getD j false) && n == m) = bs.all id := by
  subst h1
  rw [h2, Nat.min_self, all_getD]
  simp
theorem op_eqTX (hu : X.A.units + 64 < cLine) : OpR X (compareOp .Eq) (rTX X.K false) := by
  intro pins s σ H x y v u Q I rx ry h
  obtain ⟨a, b, xs, ys, bs, rfl, rfl, ha, hb, he, q⟩ := h
  cases rx
  cases ry
  obtain ⟨p, p2, t1, t2, z1, z2, z⟩ := tx_parts I ha hb he
  show wpAny _ _ (richCompare .Eq (.ref a) (.ref b)) _ _ s
  refine SeqAt.RcAt.tuples (e := fun j => bs.getD j false) t1 t2 (by omega) (z _) X.prog X.w X.xe _ ?_
  rw [tx_all z1 z2]
  refine ⟨.bl (bs.all id), H, I, rfl, ?_⟩
  have e : (bs.all id != false) = bs.all id := by cases bs.all id <;> rfl
  rwa [e] at q
theorem op_neTX (hu : X.A.units + 64 < cLine) : OpR X (compareOp .NotEq) (rTX X.K true) := by
  intro pins s σ H x y v u Q I rx ry h
  obtain ⟨a, b, xs, ys, bs, rfl, rfl, ha, hb, he, q⟩ := h
  cases rx
  cases ry
  obtain ⟨p, p2, t1, t2, z1, z2, z⟩ := tx_parts I ha hb he
  show wpAny _ _ (richCompare .NotEq (.ref a) (.ref b)) _ _ s
  refine SeqAt.RcNeAt.tuples (e := fun j => bs.getD j false) t1 t2 (by omega) (z _) X.prog X.w X.xe _ ?_
  rw [tx_all z1 z2]
  refine ⟨.bl (!bs.all id), H, I, rfl, ?_⟩
  have e : (bs.all id != true) = !bs.all id := by cases bs.all id <;> rfl
  rwa [e] at q
end
end Z

/-! a law's end, over a promise that holds where nothing is being shown. -/
namespace Z
open PySem PySem.Spec PyProof.Rows L2
/-- the script alone, if it is no object of the module -/
def hpS (K : PySem.W.Frag) (a : Addr) (o : Obj) (xs : List V) : Hp := fun b => if b = a ∧ K.lookup a = none then some (.frz o (.lst xs)) else none
section
variable {K : PySem.W.Frag} {a : Addr} {o : Obj} {xs : List V}
theorem hpS_some {b : Addr} {u : HO} (h : hpS K a o xs b = some u) : b = a ∧ K.lookup a = none ∧ u = .frz o (.lst xs) := by
  unfold hpS at h
  by_cases c : b = a ∧ K.lookup a = none
  · rw [if_pos c] at h
    exact ⟨c.1, c.2, (Option.some.inj h).symm⟩
  · rw [if_neg c] at h
    cases h
theorem hpS_or (b : Addr) : hpS K a o xs b = none ∨ hpS K a o xs b = some (.frz o (.lst xs)) := by
  cases q : hpS K a o xs b with
  | none => exact .inl rfl
  | some u => exact .inr (by rw [(hpS_some q).2.2])
end
theorem law_runG {P : Program} {w : World} {K : PySem.W.Frag} {mg mb : Str → Option Value} {k : Nat} {fa a : Addr} {fd : FuncData} {x : Str} {sp : Sp} {s : Shared} {vs : List Value} {ns : List Int}
    (KX : K.In s.heap) (hns : s.heap.Ns mainGlobals mg) (hb : s.heap.Ns builtinsNs mb) (hbb : ∀ x : Str, x ≠ "__name__" → mb x = bootBuiltins x) (hlim : s.heap.NoLimit) (hg : s.gens = #[])
    (ha : s.heap.get? a = some { cls := .type "list", data := .seq vs.toArray }) (hi : IntsAre vs ns) (hl : ns.length ≤ sizeLine) (hr : Room k callerA)
    (F : ∀ base : Heap, K.In base → base.Ns mainGlobals mg → FnG P w K mg base k fa fd [x] sp) (hbind : ∀ (s : Shared) (u : Value), BindsTo s fd ⟨[u], []⟩ [(x, u)])
    (hsp : ∀ H : Hp, SqL K H a (ns.map V.int) → sp [.ref a] H (fun v _ => v = .bl true) E0) :
    codeAny (model P w) callerA (.call (.ref fa) ⟨[.ref a], []⟩) (fun r s' => r = .ok (.ret (.bool true)) ∧ OldK s.heap s'.heap ∧ s'.os = s.os ∧ AllBare s'.gens) s := by
  have rv := vals_ints hi
  have hlen := hi.length
  generalize hH : hpS K a { cls := .type "list", data := .seq vs.toArray } (ns.map V.int) = H
  have hsome : ∀ {b : Addr} {u : HO}, H b = some u → b = a ∧ K.lookup a = none ∧ u = .frz { cls := .type "list", data := .seq vs.toArray } (.lst (ns.map V.int)) := fun h => hpS_some (by rw [hH]; exact h)
  have hnone : ∀ {b : Addr} {ob : Obj}, s.heap.get? b = some ob → (∀ its n, ob.data ≠ .seq its n) → H b = none := fun {b ob} e n => by
    cases q : H b with
    | none => rfl
    | some u =>
      obtain ⟨rfl, _, _⟩ := hsome q
      rw [ha] at e
      cases e
      exact (n _ _ rfl).elim
  have hns2 : ∀ {b : Addr} {m : Str → Option Value}, s.heap.Ns b m → (hidT s.heap H).Ns b m := fun ⟨ob, es, ep, e, d, r⟩ => ⟨ob, es, ep, hidT_get e (hnone e fun its n z => by rw [d] at z; cases z), d, r⟩
  have hkin : K.In (hidT s.heap H) := fun b ob e => hidT_get (KX b ob e) (by
    cases q : H b with
    | none => rfl
    | some u =>
      obtain ⟨rfl, n, _⟩ := hsome q
      rw [n] at e
      cases e)
  have hmod : Mod K mg (hidT s.heap H) := ⟨hkin, hns2 hns, ⟨mb, hns2 hb, hbb⟩, by
    obtain ⟨mc, h1, h2⟩ := hlim
    exact ⟨mc, hns2 h1, h2⟩⟩
  have hok : HOk P w H s.heap := fun b u q => by
    obtain ⟨rfl, _, rfl⟩ := hsome q
    exact ⟨ha, by rw [List.length_map]; exact hl, vs, _, rv, ha⟩
  have hS : SqL K H a (ns.map V.int) := by
    cases hk : K.lookup a with
    | none =>
      refine .inl (.inr ⟨{ cls := .type "list", data := .seq vs.toArray }, ?_⟩)
      rw [← hH]
      exact if_pos ⟨rfl, hk⟩
    | some ob =>
      have e := KX a ob hk
      rw [ha] at e
      cases e
      exact .inr ⟨_, vs.toArray, _, hk, rfl, rfl, rfl, by rw [List.size_toArray, hlen]; exact hl, by simpa using rv⟩
  have e0 : Env0 P w K mg (hidT s.heap H) callerA [] s H := ⟨rfl, hmod, fun b ob e => of_hidT e, Nat.le_of_eq (hidT_size _ _), trivial, fun b hb => (nomatch (show b ∈ ([] : List Addr) from hb)), hok, .of_eq hg⟩
  refine codeAny_mono ((F _ hkin (hns2 hns)).run callerA [] s H ⟨[.ref a], []⟩ [.ref a] [.ref a] _ _ rfl hr e0 (hbind s (.ref a)) (.cons rfl .nil) (hsp H hS)) fun r s' h => ?_
  cases r with
  | error er => exact (cx_no h).elim
  | ok fl =>
    cases fl with
    | next => exact False.elim h
    | brk => exact False.elim h
    | cont => exact False.elim h
    | ret u =>
      obtain ⟨v, H', os, bare, un, hok', rr, q⟩ := h
      have qv : v = .bl true := q
      subst qv
      have hu : u = Value.bool true := rr
      subst hu
      refine ⟨rfl, OldK.of_keep fun b ob e => ?_, os, bare⟩
      cases q2 : H b with
      | none => exact un.keep b ob e q2 (fun z => nomatch (show b ∈ ([] : List Addr) from z)) (by simp)
      | some u =>
        obtain ⟨rfl, _, rfl⟩ := hsome q2
        obtain ⟨e1, _⟩ := hok _ _ q2
        obtain ⟨e2, _⟩ := hok' _ _ (un.frzs _ _ _ q2)
        rw [e] at e1
        cases e1
        exact e2
/-- the goal of a law's walk -/
theorem walk_ofG {l : PySem.W.OpenLaw} {n k : Nat} {q : Program} {loose : List Str} {XP : (Str → Option Value) → Heap → Prop} {YP : World → Heap → Prop} {d : DefRec} {x : Str}
    (hn : l.most = some n) (hn2 : n ≤ sizeLine) (hdf : d.params.defaults = []) (hr : Room k callerA)
    (F : ∀ (w : World) (mg : Str → Option Value) (fa : Addr) (h : Heap), YP w h → h.Ns mainGlobals mg → mg d.name = some (.ref fa) →
      ∃ (K : PySem.W.Frag) (fd : FuncData) (sp : Sp), K.In h ∧ (∀ (s : Shared) (u : Value), BindsTo s fd ⟨[u], []⟩ [(x, u)]) ∧
        (∀ (H : Hp) (a : Addr) (ns : List Int), ns.length ≤ n → SqL K H a (ns.map V.int) → sp [.ref a] H (fun v _ => v = .bl true) E0) ∧
        ∀ base : Heap, K.In base → base.Ns mainGlobals mg → FnG l.prog w K mg base k fa fd [x] sp) :
    PySem.W.WalkO q loose XP YP l.row.toRowW d [] (fun f vs => PySem.call f vs) := by
  refine Att.attach_call hn hdf fun w s₀ s₁ mg mb fa o pm cd doc a vs ns G Y ho hd hcd hmg hobj hints hlen hg => ?_
  obtain ⟨K, fd, sp, KX, hb, hsp, hF⟩ := F w mg fa _ Y G.T.g hmg
  exact law_runG KX G.T.g G.T.b G.T.builtins G.T.nolimit hg hobj hints (Nat.le_trans hlen hn2) hr hF hb fun H hS => hsp H a ns hlen hS
end Z

/-! a law's end where the law's defs hand lambdas on: their code objects' tables are tracked too, empty at first. -/
namespace Z
open PySem PySem.Spec PyProof.Rows L2 LamX
/-- the script, if it is no object of the module, and the tables -/
def hpT (K : PySem.W.Frag) (a : Addr) (o : Obj) (xs : List V) (T : List Addr) : Hp := fun b => if b ∈ T then some (.tbl #[]) else hpS K a o xs b
section
variable {K : PySem.W.Frag} {a : Addr} {o : Obj} {xs : List V} {T : List Addr} {b : Addr} {u : HO}
theorem hpT_in (h : b ∈ T) : hpT K a o xs T b = some (.tbl #[]) := if_pos h
theorem hpT_out (h : b ∉ T) : hpT K a o xs T b = hpS K a o xs b := if_neg h
theorem hpT_some (h : hpT K a o xs T b = some u) : (b ∈ T ∧ u = .tbl #[]) ∨ (b ∉ T ∧ b = a ∧ K.lookup a = none ∧ u = .frz o (.lst xs)) := by
  by_cases hb : b ∈ T
  · rw [hpT_in hb] at h
    exact .inl ⟨hb, (Option.some.inj h).symm⟩
  · rw [hpT_out hb] at h
    exact .inr ⟨hb, hpS_some h⟩
end
theorem law_runGT {P : Program} {w : World} {K : PySem.W.Frag} {mg mb : Str → Option Value} {k : Nat} {fa a : Addr} {cs : List (Addr × Addr)} {fd : FuncData} {x : Str} {sp : Sp} {s : Shared} {vs : List Value} {ns : List Int}
    (KX : K.In s.heap) (hns : s.heap.Ns mainGlobals mg) (hb : s.heap.Ns builtinsNs mb) (hbb : ∀ x : Str, x ≠ "__name__" → mb x = bootBuiltins x) (hlim : s.heap.NoLimit) (hg : s.gens = #[])
    (hT : ∀ p ∈ cs, s.heap.get? p.2 = some { cls := .none, data := .fields #[] }) (nT : ∀ p ∈ cs, K.lookup p.2 = none) (hC : ∀ p ∈ cs, PySem.W.CodeHd s.heap p.1 p.2)
    (hbm : ∃ (bm : Addr) (ob : Obj), mg "__builtins__" = some (.ref bm) ∧ bm ≠ builtinsNs ∧ s.heap.get? bm = some ob ∧ ob.cls = .type "module" ∧ ob.dict = some builtinsNs ∧ ob.data = .plain)
    (ha : s.heap.get? a = some { cls := .type "list", data := .seq vs.toArray }) (hi : IntsAre vs ns) (hl : ns.length ≤ sizeLine) (hr : Room k callerA)
    (F : ∀ base : Heap, K.In base → base.Ns mainGlobals mg → (∀ p ∈ cs, TabB base mg p.1 p.2) → FnG P w K mg base k fa fd [x] sp) (hbind : ∀ (s : Shared) (u : Value), BindsTo s fd ⟨[u], []⟩ [(x, u)])
    (hsp : ∀ H : Hp, (∀ p ∈ cs, H p.2 = some (.tbl #[])) → SqL K H a (ns.map V.int) → sp [.ref a] H (fun v _ => v = .bl true) E0) :
    codeAny (model P w) callerA (.call (.ref fa) ⟨[.ref a], []⟩) (fun r s' => r = .ok (.ret (.bool true)) ∧ OldK s.heap s'.heap ∧ s'.os = s.os ∧ AllBare s'.gens) s := by
  have rv := vals_ints hi
  have hlen := hi.length
  have isT : ∀ b : Addr, b ∈ cs.map (·.2) → s.heap.get? b = some { cls := .none, data := .fields #[] } ∧ K.lookup b = none := fun b hb => by
    obtain ⟨p, hp, rfl⟩ := List.mem_map.mp hb
    exact ⟨hT p hp, nT p hp⟩
  have memT : ∀ p ∈ cs, p.2 ∈ cs.map (·.2) := fun p hp => List.mem_map.mpr ⟨p, hp, rfl⟩
  have aT : a ∉ cs.map (·.2) := fun z => by
    have q := (isT a z).1
    rw [ha] at q
    have z' : Data.seq vs.toArray _ = Data.fields #[] := congrArg Obj.data (Option.some.inj q)
    cases z'
  generalize hH : hpT K a { cls := .type "list", data := .seq vs.toArray } (ns.map V.int) (cs.map (·.2)) = H
  have hsome : ∀ {b : Addr} {u : HO}, H b = some u → (b ∈ cs.map (·.2) ∧ u = .tbl #[]) ∨ (b ∉ cs.map (·.2) ∧ b = a ∧ K.lookup a = none ∧ u = .frz { cls := .type "list", data := .seq vs.toArray } (.lst (ns.map V.int))) := fun h => hpT_some (by rw [hH]; exact h)
  -- what is neither a list nor an empty table is not tracked
  have hnone : ∀ {b : Addr} {ob : Obj}, s.heap.get? b = some ob → (∀ its n, ob.data ≠ .seq its n) → ob.data ≠ .fields #[] → H b = none := fun {b ob} e n1 n2 => by
    cases q : H b with
    | none => rfl
    | some u =>
      rcases hsome q with ⟨hb, _⟩ | ⟨_, rfl, _, _⟩
      · rw [(isT b hb).1] at e
        cases e
        exact (n2 rfl).elim
      · rw [ha] at e
        cases e
        exact (n1 _ _ rfl).elim
  have hget : ∀ {b : Addr} {ob : Obj}, s.heap.get? b = some ob → (∀ its n, ob.data ≠ .seq its n) → ob.data ≠ .fields #[] → (hidT s.heap H).get? b = some ob := fun e n1 n2 => hidT_get e (hnone e n1 n2)
  have hns2 : ∀ {b : Addr} {m : Str → Option Value}, s.heap.Ns b m → (hidT s.heap H).Ns b m := fun ⟨ob, es, ep, e, d, r⟩ => ⟨ob, es, ep, hget e (fun its n z => by rw [d] at z; cases z) (fun z => by rw [d] at z; cases z), d, r⟩
  have hkin : K.In (hidT s.heap H) := fun b ob e => hidT_get (KX b ob e) (by
    cases q : H b with
    | none => rfl
    | some u =>
      rcases hsome q with ⟨hb, _⟩ | ⟨_, rfl, n, _⟩
      · rw [(isT b hb).2] at e
        cases e
      · rw [n] at e
        cases e)
  have hmod : Mod K mg (hidT s.heap H) := ⟨hkin, hns2 hns, ⟨mb, hns2 hb, hbb⟩, by
    obtain ⟨mc, h1, h2⟩ := hlim
    exact ⟨mc, hns2 h1, h2⟩⟩
  have hok : HOk P w H s.heap := fun b u q => by
    rcases hsome q with ⟨hb, rfl⟩ | ⟨_, rfl, _, rfl⟩
    · exact (isT b hb).1
    · exact ⟨ha, by rw [List.length_map]; exact hl, vs, _, rv, ha⟩
  have hS : SqL K H a (ns.map V.int) := by
    cases hk : K.lookup a with
    | none =>
      refine .inl (.inr ⟨{ cls := .type "list", data := .seq vs.toArray }, ?_⟩)
      rw [← hH, hpT_out aT]
      exact if_pos ⟨rfl, hk⟩
    | some ob =>
      have e := KX a ob hk
      rw [ha] at e
      cases e
      exact .inr ⟨_, vs.toArray, _, hk, rfl, rfl, rfl, by rw [List.size_toArray, hlen]; exact hl, by simpa using rv⟩
  have hTb : ∀ p ∈ cs, H p.2 = some (.tbl #[]) := fun p hp => by
    rw [← hH]
    exact hpT_in (memT p hp)
  have TB : ∀ p ∈ cs, TabB (hidT s.heap H) mg p.1 p.2 := fun p hp => by
    refine ⟨?_, ?_, fun z => ?_⟩
    · obtain ⟨ob, us, file, tf, flags, tg, inF, text, tt, e1, r1, r2, r3, r⟩ := hC p hp
      refine ⟨ob, us, file, tf, flags, tg, inF, text, tt, hget e1 (fun its n z => ?_) (fun z => ?_), r1, r2, r3, r⟩
      · rw [r2] at z
        cases z
      · rw [r2] at z
        cases z
        simp at r3
    · obtain ⟨bm, ob, b1, b2, b3, b4, b5, b6⟩ := hbm
      refine ⟨bm, ob, b1, b2, fun q => ?_, fun q => ?_, hget b3 (fun its n z => ?_) (fun z => ?_), b4, b5, b6⟩
      · obtain ⟨o2, es, ep, e, hd, _⟩ := hns
        rw [q, e] at b3
        cases b3
        rw [hd] at b6
        cases b6
      · rw [q, hT p hp] at b3
        cases b3
        cases b6
      · rw [b6] at z
        cases z
      · rw [b6] at z
        cases z
    · obtain ⟨o2, es, ep, e, hd, _⟩ := hns
      rw [z, hT p hp] at e
      cases e
      cases hd
  have e0 : Env0 P w K mg (hidT s.heap H) callerA [] s H := ⟨rfl, hmod, fun b ob e => of_hidT e, Nat.le_of_eq (hidT_size _ _), trivial, fun b hb => (nomatch (show b ∈ ([] : List Addr) from hb)), hok, .of_eq hg⟩
  refine codeAny_mono ((F _ hkin (hns2 hns) TB).run callerA [] s H ⟨[.ref a], []⟩ [.ref a] [.ref a] _ _ rfl hr e0 (hbind s (.ref a)) (.cons rfl .nil) (hsp H hTb hS)) fun r s' h => ?_
  cases r with
  | error er => exact (cx_no h).elim
  | ok fl =>
    cases fl with
    | next => exact False.elim h
    | brk => exact False.elim h
    | cont => exact False.elim h
    | ret u =>
      obtain ⟨v, H', os, bare, un, hok', rr, q⟩ := h
      have qv : v = .bl true := q
      subst qv
      have hu : u = Value.bool true := rr
      subst hu
      have key : ∀ b o, b ∉ cs.map (·.2) → s.heap.get? b = some o → s'.heap.get? b = some o := fun b o nb e => by
        cases q2 : H b with
        | none => exact un.keep b o e q2 (fun z => nomatch (show b ∈ ([] : List Addr) from z)) (by simp)
        | some u =>
          rcases hsome q2 with ⟨hb, _⟩ | ⟨_, rfl, _, rfl⟩
          · exact (nb hb).elim
          · obtain ⟨e1, _⟩ := hok _ _ q2
            obtain ⟨e2, _⟩ := hok' _ _ (un.frzs _ _ _ q2)
            rw [e] at e1
            cases e1
            exact e2
      have grown : ∀ p ∈ cs, ∃ more : Array Value, s'.heap.get? p.2 = some { cls := .none, data := .fields more } := fun p hp => by
        obtain ⟨more, z⟩ := un.tbls p.2 #[] (hTb p hp)
        exact ⟨_, hok' p.2 _ z⟩
      refine ⟨rfl, ⟨fun b o e => ?_, fun b o e => ?_⟩, os, bare⟩
      · by_cases hb : b ∈ cs.map (·.2)
        · obtain ⟨p, hp, rfl⟩ := List.mem_map.mp hb
          obtain ⟨more, hm⟩ := grown p hp
          rw [hT p hp] at e
          cases e
          exact .inr (.inl ⟨((hC p hp).tab (hT p hp)).isCodeTable, rfl, #[], more, rfl, by rw [Array.empty_append]; exact hm⟩)
        · exact .inl (key b o hb e)
      · by_cases hb : b ∈ cs.map (·.2)
        · obtain ⟨p, hp, rfl⟩ := List.mem_map.mp hb
          obtain ⟨more, hm⟩ := grown p hp
          exact ⟨_, hm⟩
        · exact ⟨o, key b o hb e⟩
/-- the goal of a law's walk -/
theorem walk_ofGT {l : PySem.W.OpenLaw} {n k : Nat} {q : Program} {loose : List Str} {XP : (Str → Option Value) → Heap → Prop} {YP : World → Heap → Prop} {d : DefRec} {x : Str}
    (hn : l.most = some n) (hn2 : n ≤ sizeLine) (hdf : d.params.defaults = []) (hr : Room k callerA)
    (F : ∀ (w : World) (mg : Str → Option Value) (fa : Addr) (h : Heap), YP w h → h.Ns mainGlobals mg → mg d.name = some (.ref fa) →
      ∃ (K : PySem.W.Frag) (fd : FuncData) (cs : List (Addr × Addr)) (sp : Sp), K.In h ∧ (∀ p ∈ cs, h.get? p.2 = some { cls := .none, data := .fields #[] }) ∧ (∀ p ∈ cs, K.lookup p.2 = none) ∧ (∀ p ∈ cs, PySem.W.CodeHd h p.1 p.2) ∧
        (∀ (s : Shared) (u : Value), BindsTo s fd ⟨[u], []⟩ [(x, u)]) ∧
        (∀ (H : Hp) (a : Addr) (ns : List Int), ns.length ≤ n → (∀ p ∈ cs, H p.2 = some (.tbl #[])) → SqL K H a (ns.map V.int) → sp [.ref a] H (fun v _ => v = .bl true) E0) ∧
        ∀ base : Heap, K.In base → base.Ns mainGlobals mg → (∀ p ∈ cs, TabB base mg p.1 p.2) → FnG l.prog w K mg base k fa fd [x] sp) :
    PySem.W.WalkO q loose XP YP l.row.toRowW d [] (fun f vs => PySem.call f vs) := by
  refine Att.attach_call hn hdf fun w s₀ s₁ mg mb fa o pm cd doc a vs ns G Y ho hd hcd hmg hobj hints hlen hg => ?_
  obtain ⟨K, fd, cs, sp, KX, hT, nT, C, hb, hsp, hF⟩ := F w mg fa _ Y G.T.g hmg
  exact law_runGT KX G.T.g G.T.b G.T.builtins G.T.nolimit hg hT nT C G.T.bmain hobj hints (Nat.le_trans hlen hn2) hr hF hb fun H hH hS => hsp H a ns hlen hH hS
end Z

/-! what the head tells of three classes of errors. -/
namespace Z
open PySem PySem.Spec PyProof.Rows L2
theorem er3K_ok {K : PySem.W.Frag} {D : Addr} (h : er3K K D = true) : ErK K D := by
  unfold er3K at h
  simp only [List.all_cons, List.all_nil, id, Bool.and_true, Bool.and_eq_true, decide_eq_true_eq] at h
  obtain ⟨h1, h2, h3, h4, h5, h6, h7, h8, h9⟩ := h
  exact ⟨h1, He.eqO_ok h2, He.eqO_ok h3, h4, h5, He.eqO_ok h6, h7, h8, h9⟩
theorem er3All_ok {K : PySem.W.Frag} (h : er3All K = true) : Er3 K := by
  have one : ∀ (i : Nat) (n : Str), er3N[i]? = some n → (er3One K i n).all id = true := fun i n hi => by
    have h1 := List.all_eq_true.mp h i (List.mem_range.mpr (er3_lt hi))
    rw [hi] at h1
    exact h1
  have at_ : ∀ (i : Nat) (n : Str), er3N[i]? = some n → ∀ (k : Nat) (b : Bool), (er3One K i n)[k]? = some b → b = true := fun i n hi k b hb => List.all_eq_true.mp (one i n hi) b (List.mem_of_getElem? hb)
  exact ⟨fun i n hi => er3K_ok (at_ i n hi 0 _ rfl), fun i n j m hi hj => by
      have h1 := List.all_eq_true.mp (at_ i n hi 1 _ rfl) j (List.mem_range.mpr (er3_lt hj))
      rw [hj] at h1
      exact of_decide_eq_true h1,
    fun i n hi => of_decide_eq_true (at_ i n hi 2 _ rfl), fun i n hi => He.eqO_ok (at_ i n hi 3 _ rfl)⟩
end Z

namespace K11
open PySem PySem.Spec PyProof.Rows L2 Z
local macro_rules | `(tactic| walk_at "rd") => `(tactic| try simp only [cxOf, tSeq, tIfS, tRet, tRetN, tAsg, tDrop, tNext, tBreak, tCont, tNever, tPar, tPar3, tAug, gName, gTup, gCons, gNil, gSub, tVar, tC, tOp, tUn, tCB, tBM, tBM0, tCons, tNil, tTest, tB, tAnd, tOr, tNot, tAndV, tOrV, tNotV, tIf, tChain,
  tTup, tLst, tCall, tMeth, tSl, tPart, tNoPart, tM1, tFmt, tJs_nil, tJs_cons, tCKw, rI0, rI, rU, rEq, rNe, scal_ii, scal_ss, scal_bb, ipI, iStr, iTup, iList, iRng1, sFld, tFld, L2.start, List.getElem?_cons_zero, List.getElem?_cons_succ, List.set_cons_zero, List.set_cons_succ, Option.some.injEq, V.int.injEq, V.bl.injEq, V.str.injEq, V.ref.injEq,
  List.cons.injEq, exists_and_left, exists_eq_left', exists_eq_left, exists_eq_right, exists_eq_right', exists_eq', exists_eq, and_true, true_and, and_self, List.map_cons, List.map_nil, List.length_cons, List.length_nil, List.replicate_succ, List.replicate_zero, List.cons_append, List.nil_append, List.append_nil,
  Nat.add_sub_cancel, Nat.reduceAdd, Nat.reduceSub, if_true, if_false, ite_true, ite_false, Bool.not_true, Bool.not_false, Bool.true_eq_false, Bool.false_eq_true, reduceIte, reduceCtorEq, false_and, exists_false, or_false, false_or, decide_true, decide_false, wipe])

section
variable {P : Program} {w : World} {K : PySem.W.Frag} {mg : Str → Option Value} {base : Heap}
/-! ### is_integer, is_number, is_integer_within -/
abbrev s_is_integer : Stmt := topS 27
theorem sc_is_integer : FnScope ["value"] ["value"] (defScope s_is_integer) := ⟨rfl, rfl, rfl, by decide +kernel, rfl, by decide +kernel, by decide +kernel⟩
def spIsInt (K : PySem.W.Frag) : Sp := fun vs H Q _ => ∃ v d, vs = [v] ∧ DT K H v d ∧ Q (.bl d.isInt) H
theorem ok_is_integer (B : Bl mg) (D0 : Df K mg "is_integer" s_is_integer) : Cal P w K mg base 1 "is_integer" ["value"] (spIsInt K) := by
  refine D0.cal sc_is_integer (fun _ _ _ _ _ _ us hl => match us, hl with | [_], _ => rfl) (fun vs H Q E h => ?_) (fun f cdv A outer s H vs Q E hr h => ?_)
  · obtain ⟨v, d, rfl, _⟩ := h
    rfl
  · obtain ⟨v, d, rfl, hd, q⟩ := h
    refine ⟨_, (pss_one (ps_ret (pe_and (pe_callB (r := rIsi K) call_isi (by rfl) B.isinstance_ (by decide +kernel) (pa_cons (pv 0) (pa_cons (pe_bltn (by rfl) B.int_ (by decide +kernel) (v := .ty "int") rfl) pa_nil))) (pe_one (pe_not (pe_callB (r := rIsi K) call_isi (by rfl) B.isinstance_ (by decide +kernel) (pa_cons (pv 0) (pa_cons (pe_bltn (by rfl) B.bool_ (by decide +kernel) (v := .ty "bool") rfl) pa_nil)))))))), ?_⟩
    walk_at "rd"
    refine isi_int hd.tyd ?_
    walk_at "rd"
    rw [D.isInt_of] at q
    cases hi : d.tg.int?
    · rw [hi] at q
      exact iteF q
    · rw [hi] at q
      refine iteT (isi_bl hd.tyd ?_)
      walk_at "rd"
      exact q
abbrev s_is_integer_within : Stmt := topS 30
theorem sc_is_integer_within : FnScope ["value", "least", "most"] ["value", "least", "most"] (defScope s_is_integer_within) := ⟨rfl, rfl, rfl, by decide +kernel, rfl, by decide +kernel, by decide +kernel⟩
def spIsIn (K : PySem.W.Frag) : Sp := fun vs H Q _ => ∃ v d, ∃ lo hi : Int, vs = [v, .int lo, .int hi] ∧ DT K H v d ∧ Q (.bl (d.isIn lo hi)) H
theorem ok_is_integer_within (c_is_integer : Cal P w K mg base 1 "is_integer" ["value"] (spIsInt K)) (D0 : Df K mg "is_integer_within" s_is_integer_within) :
    Cal P w K mg base 2 "is_integer_within" ["value", "least", "most"] (spIsIn K) := by
  refine D0.cal sc_is_integer_within (fun _ _ _ _ _ _ us hl => match us, hl with | [_, _, _], _ => rfl) (fun vs H Q E h => ?_) (fun f cdv A outer s H vs Q E hr h => ?_)
  · obtain ⟨v, d, lo, hi, rfl, _⟩ := h
    rfl
  · obtain ⟨v, d, lo, up, rfl, hd, q⟩ := h
    refine ⟨_, (pss_one (ps_ret (pe_and (pe_cal c_is_integer hr (by decide) rfl (pa_cons (pv 0) pa_nil)) (pe_one (pe_chain op_le op_le (pv 1) (pv 0) (pv 2)))))), ?_⟩
    walk_at "rd"
    refine ⟨v, d, rfl, hd, ?_⟩
    walk_at "rd"
    cases hi : d.isInt
    · rw [D.isIn_no hi] at q
      exact iteF q
    · obtain ⟨i, rfl⟩ := D.isInt_some hi
      cases hd
      walk_at "rd"
      by_cases h1 : lo ≤ i
      · rw [decide_eq_true h1]
        walk_at "rd"
        have e : D.isIn (.int i) lo up = decide (i ≤ up) := by simp [D.isIn, h1]
        rw [← e]
        exact q
      · rw [decide_eq_false h1]
        walk_at "rd"
        have e : D.isIn (.int i) lo up = false := by simp [D.isIn, h1]
        rw [← e]
        exact q
/-! ### is_name -/
abbrev s_is_name : Stmt := topS 32
theorem sc_is_name : FnScope ["value", "sign"] ["value"] (defScope s_is_name) := ⟨rfl, rfl, rfl, by decide +kernel, rfl, by decide +kernel, by decide +kernel⟩
def spName (K : PySem.W.Frag) : Sp := fun vs H Q _ => ∃ v d, vs = [v] ∧ DT K H v d ∧ d.fits ∧ ∀ H', Ex H H' → Q (.bl d.isName) H'
theorem ok_is_name (B : Bl mg) (k_LONGEST_NAME : ∃ t, mg "_LONGEST_NAME" = some (.int 8 t)) (k_LETTERS : ∃ t, mg "_LETTERS" = some (.str "abcdefghijklmnopqrstuvwxyz" t))
    (k_LETTERS_AND_DIGITS : ∃ t, mg "_LETTERS_AND_DIGITS" = some (.str "abcdefghijklmnopqrstuvwxyz0123456789" t)) (D0 : Df K mg "is_name" s_is_name) : Cal P w K mg base 1 "is_name" ["value"] (spName K) := by
  refine D0.cal sc_is_name (fun _ _ _ _ _ _ us hl => match us, hl with | [_], _ => rfl) (fun vs H Q E h => ?_) (fun f cdv A outer s H vs Q E hr h => ?_)
  · obtain ⟨v, d, rfl, _⟩ := h
    rfl
  · obtain ⟨v, d, rfl, hd, hz, q⟩ := h
    refine ⟨_, (pss_cons (ps_if (PW.pt (pw_or (pt_not (pt_val (pe_callB (r := rIsi K) call_isi (by rfl) B.isinstance_ (by decide +kernel) (pa_cons (pv 0) (pa_cons (pe_bltn (by rfl) B.str_ (by decide +kernel) (v := .ty "str") rfl) pa_nil))))) (pw_or1 (pt_not (pt_chain op_le op_le pe_int (pe_callB call_len_str (by rfl) B.len_ PySem.boot_len (pa_cons (pv 0) pa_nil)) (pe_gi rfl k_LONGEST_NAME)))))) (pss_one (ps_ret pe_bl)) pss_nil)
      (pss_one (ps_ret (pe_and (pe_cmpR op_in_sign (pe_ix ix_str (pv 0) pe_int (fun _ _ => rfl)) (pe_gs rfl k_LETTERS) (by rfl)) (pe_one (pe_callB (r := rAll K) (cr_all rfl) (by rfl) B.all_ (by decide +kernel) (pa_cons (pe_lc (own := [("sign", 1)]) (g := gName 1) rfl sc_is_name.nd (pi_str (pv 0)) (blkOk_by (N := ["value", "sign"]) (sc := defScope s_is_name) (by decide +kernel)) (fun _ _ _ _ _ => (pg_name (i := 1) sc_is_name.nd rfl (.inl rfl))) (fun _ _ _ _ _ => pts_nil) (fun _ _ _ _ _ => (pe_cmpR op_in_sign (pv 1) (pe_gs rfl k_LETTERS_AND_DIGITS) (by rfl)))) pa_nil))))))), ?_⟩
    walk_at "rd"
    refine isi_str hd.tyd ?_
    walk_at "rd"
    cases hi : decide (d.tg = .str)
    · walk_at "rd"
      have e : d.isName = false := by
        cases d <;> first | rfl | cases hi
      rw [e] at q
      exact q H .refl
    · obtain ⟨z, rfl⟩ : ∃ z, d = .str z := by
        cases d <;> first | exact ⟨_, rfl⟩ | cases hi
      cases hd
      walk_at "rd"
      refine ⟨small hz, ?_⟩
      have ez : z.cps.toList.length = z.length := Array.length_toList
      cases hc : z.cps.toList with
      | nil =>
        have e0 : z.length = 0 := by rw [← ez, hc]; rfl
        have e : (D.str z).isName = false := by simp [D.isName, nameOk, e0]
        rw [e] at q
        rw [e0]
        exact iteF (q H .refl)
      | cons c r =>
        have e0 : z.length = r.length + 1 := by rw [← ez, hc]; rfl
        have en := nameOk_iff hc
        rw [decide_eq_true (show (1 : Int) ≤ (z.length : Int) by omega)]
        walk_at "rd"
        by_cases h8 : z.length ≤ 8
        · rw [decide_eq_true (show (z.length : Int) ≤ 8 by omega)]
          walk_at "rd"
          refine ⟨z, 0, c, rfl, rfl, small hz, by rw [hc]; exact atI_nat (j := 0) rfl, ?_⟩
          refine ⟨c, rfl, ?_⟩
          rw [in_letters]
          cases hl : lower c
          · have e : (D.str z).isName = false := by rw [D.isName, en, hl]; simp
            rw [e] at q
            exact iteF (q H .refl)
          · refine iteT ?_
            refine lc_str rfl (by omega) (fun c => .bl (lowdig c)) ?_ ?_
            · intro c' H' Q' _ e q'
              walk_at "rd"
              refine ⟨c', rfl, ?_⟩
              rw [in_lettersdigits]
              exact q' H' .refl
            · intro D1 H' hD e h1
              refine ⟨D1, z.cps.toList.map lowdig, rfl, sqL (by rw [List.map_map]; exact h1), ?_⟩
              have e2 : (D.str z).isName = (z.cps.toList.map lowdig).all id := by
                rw [D.isName, en, hl, decide_eq_true h8, List.all_map]
                rfl
              rw [← e2]
              exact q H' e
        · rw [decide_eq_false (show ¬ (z.length : Int) ≤ 8 by omega)]
          walk_at "rd"
          have e : (D.str z).isName = false := by rw [D.isName, en, decide_eq_false h8]; simp
          rw [e] at q
          exact q H .refl
end
section
variable {P : Program} {w : World} {K : PySem.W.Frag} {mg : Str → Option Value} {base : Heap}
abbrev s_is_number : Stmt := topS 28
theorem sc_is_number : FnScope ["value"] ["value"] (defScope s_is_number) := ⟨rfl, rfl, rfl, by decide +kernel, rfl, by decide +kernel, by decide +kernel⟩
def spIsNum (K : PySem.W.Frag) : Sp := fun vs H Q _ => ∃ v d, vs = [v] ∧ DT K H v d ∧ Q (.bl d.isNum) H
theorem ok_is_number (c_is_integer : Cal P w K mg base 1 "is_integer" ["value"] (spIsInt K)) (D0 : Df K mg "is_number" s_is_number) : Cal P w K mg base 2 "is_number" ["value"] (spIsNum K) := by
  refine D0.cal sc_is_number (fun _ _ _ _ _ _ us hl => match us, hl with | [_], _ => rfl) (fun vs H Q E h => ?_) (fun f cdv A outer s H vs Q E hr h => ?_)
  · obtain ⟨v, d, rfl, _⟩ := h
    rfl
  · obtain ⟨v, d, rfl, hd, q⟩ := h
    refine ⟨_, (pss_one (ps_ret (pe_and (pe_cal c_is_integer hr (by decide) rfl (pa_cons (pv 0) pa_nil)) (pe_one (pe_cmpR op_ge (pv 0) pe_int (nomark _)))))), ?_⟩
    walk_at "rd"
    refine ⟨v, d, rfl, hd, ?_⟩
    walk_at "rd"
    cases hi : d.isInt
    · rw [D.isNum_no hi] at q
      exact iteF q
    · obtain ⟨i, rfl⟩ := D.isInt_some hi
      cases hd
      walk_at "rd"
      exact q
end
end K11

namespace K11
open PySem PySem.Spec PyProof.Rows L2 Z ZE
local macro_rules | `(tactic| walk_at "rd") => `(tactic| try simp only [cxOf, tSeq, tIfS, tRet, tRetN, tAsg, tDrop, tNext, tBreak, tCont, tNever, tPar, tPar3, tAug, gName, gTup, gCons, gNil, gSub, tVar, tC, tOp, tUn, tCB, tBM, tBM0, tCons, tNil, tTest, tB, tAnd, tOr, tNot, tAndV, tOrV, tNotV, tIf, tChain,
  tTup, tLst, tCall, tMeth, tSl, tPart, tNoPart, tM1, tFmt, tJs_nil, tJs_cons, tCKw, rI0, rI, rU, rEq, rNe, scal_ii, scal_ss, scal_bb, ipI, iStr, iTup, iList, iRng1, sFld, tFld, L2.start, List.getElem?_cons_zero, List.getElem?_cons_succ, List.set_cons_zero, List.set_cons_succ, Option.some.injEq, V.int.injEq, V.bl.injEq, V.str.injEq, V.ref.injEq,
  List.cons.injEq, exists_and_left, exists_eq_left', exists_eq_left, exists_eq_right, exists_eq_right', exists_eq', exists_eq, and_true, true_and, and_self, List.map_cons, List.map_nil, List.length_cons, List.length_nil, List.replicate_succ, List.replicate_zero, List.cons_append, List.nil_append, List.append_nil,
  Nat.add_sub_cancel, Nat.reduceAdd, Nat.reduceSub, if_true, if_false, ite_true, ite_false, Bool.not_true, Bool.not_false, Bool.true_eq_false, Bool.false_eq_true, reduceIte, reduceCtorEq, false_and, exists_false, or_false, false_or, decide_true, decide_false, wipe])

section
variable {P : Program} {w : World} {K : PySem.W.Frag} {mg : Str → Option Value} {base : Heap}
abbrev s_law_sort : Stmt := topS 114
theorem sc_law_sort : FnScope ["_law_e", "_law_found"] ["_law_e"] (defScope s_law_sort) := ⟨rfl, rfl, rfl, by decide +kernel, rfl, by decide +kernel, by decide +kernel⟩
def spSort (K : PySem.W.Frag) (p : Pin) : Sp := fun vs H Q _ => ∃ (i : Nat) (n : Str) (d : Option Addr) (fs : List (Str × V)) (v : V), vs = [.ref p.1] ∧ er3N[i]? = some n ∧ ErAt (He.ga K n) d p ∧ ErFs H d fs ∧ fs.lookup (er3F i) = some v ∧ ∀ t H', Ex H H' → H' t = some (.tup [.str n, v]) → Q (.ref t) H'
theorem ok_law_sort (B : Bl mg) (G : Gl3 K mg) (TE : Er3 K) (D0 : Df K mg "_law_sort" s_law_sort) : CalE P w K mg base 1 "_law_sort" ["_law_e"] (spSort K) := by
  refine D0.calE sc_law_sort (fun _ _ _ _ _ _ us hl => match us, hl with | [_], _ => rfl) (fun p vs H Q E h => ?_) (fun f cdv A outer s H vs Q E p hgd hr h => ?_)
  · obtain ⟨i, n, d, fs, v, rfl, _⟩ := h
    rfl
  · obtain ⟨i, n, d, fs, v, rfl, hi, hz, hf, hv, q⟩ := h
    have hpn : p ∈ [p] := List.mem_singleton.mpr rfl
    have hC := TE.k i n hi
    have h3 := er3_lt hi
    generalize hD : He.ga K n = D at hz hC
    refine ⟨_, (pss_cons (ps_set (i := 1) sc_law_sort.nd rfl (.inl rfl) (pe_lst pa_nil))
      (pss_cons (ps_if (pt_val (pe_callB (r := rIsP K D d p) (call_isP hpn hC hz) (by rfl) B.isinstance_ (by decide +kernel) (pa_cons (pv 0) (pa_cons (pe_glob (v := .ref (He.ga K "NotAnOrder")) rfl G.NotAnOrder_ rfl) pa_nil)))) (pss_one (ps_expr (pe_bm PySem.F.plainAttrs_list PySem.F.slot_list_append PySem.F.type_list_append mt_append (pv 1) (pa_cons (pe_tup (pa_cons pe_str (pa_cons (pe_fldP hpn hC hz (pv 0)) pa_nil))) pa_nil)))) pss_nil)
      (pss_cons (ps_if (pt_val (pe_callB (r := rIsP K D d p) (call_isP hpn hC hz) (by rfl) B.isinstance_ (by decide +kernel) (pa_cons (pv 0) (pa_cons (pe_glob (v := .ref (He.ga K "InvalidNumber")) rfl G.InvalidNumber_ rfl) pa_nil)))) (pss_one (ps_expr (pe_bm PySem.F.plainAttrs_list PySem.F.slot_list_append PySem.F.type_list_append mt_append (pv 1) (pa_cons (pe_tup (pa_cons pe_str (pa_cons (pe_fldP hpn hC hz (pv 0)) pa_nil))) pa_nil)))) pss_nil)
      (pss_cons (ps_if (pt_val (pe_callB (r := rIsP K D d p) (call_isP hpn hC hz) (by rfl) B.isinstance_ (by decide +kernel) (pa_cons (pv 0) (pa_cons (pe_glob (v := .ref (He.ga K "TooMany")) rfl G.TooMany_ rfl) pa_nil)))) (pss_one (ps_expr (pe_bm PySem.F.plainAttrs_list PySem.F.slot_list_append PySem.F.type_list_append mt_append (pv 1) (pa_cons (pe_tup (pa_cons pe_str (pa_cons (pe_fldP hpn hC hz (pv 0)) pa_nil))) pa_nil)))) pss_nil)
      (pss_one (ps_ret (pe_ifExp (pt_cmpR op_eq (pe_callB (r := rLenQ K) call_len_seq (by rfl) B.len_ PySem.boot_len (pa_cons (pv 1) pa_nil)) pe_int (nomark _)) (pe_ix (r := rIxL K) ix_list (pv 1) pe_int (fun _ _ => rfl)) pe_non))))))), ?_⟩
    subst hD
    walk_at "rd"
    refine ⟨by decide, fun l nl => ?_⟩
    have e1 : Ex H (upd H l (.lst [])) := .new nl
    have f1 := upd_same (H := H) (a := l) (o := .lst [])
    generalize upd H l (.lst []) = H1 at e1 f1 ⊢
    have hf1 := hf.up e1
    obtain ⟨dd, rfl, hdd⟩ : ∃ dd, d = some dd ∧ H1 dd = some (.xd fs) := by
      rcases hf1 with ⟨rfl, rfl⟩ | h
      · cases hv
      · exact h
    have tail : ∀ (t : Addr) (H2 : Hp), Gr (· = l) H1 H2 → H2 l = some (.lst [.ref t]) → H2 t = some (.tup [.str n, v]) → rLenQ K [V.ref l] H2 fun x H1 => scal x (V.int 1) = true ∧ if decide (x = V.int 1) = true then rIxL K (V.ref l) (V.int 0) H1 Q else Q V.non H1 := fun t H2 g h1 h2 => by
      refine ⟨l, _, rfl, .inl (sqL h1), rfl, ?_⟩
      rw [decide_eq_true (show V.int ((([V.ref t] : List V).length : Nat) : Int) = .int 1 from rfl)]
      exact iteT ⟨l, _, 0, _, rfl, rfl, sqL h1, atI_nat (j := 0) rfl, q t H2 (Gr.freshJ e1 nl g) h2⟩
    have put : ∀ {R : VK}, (∀ (t : Addr) (H2 : Hp), Gr (· = l) H1 H2 → H2 l = some (.lst [.ref t]) → H2 t = some (.tup [.str n, v]) → R .non H2) → 2 ≤ sizeLine ∧ ∀ t : Addr, H1 t = none → rAppend (V.ref l) [V.ref t] (upd H1 t (.tup [.str n, v])) R := fun {R} k => ⟨by decide, fun t nt => by
      have hlt : l ≠ t := fun z => by
        rw [z, nt] at f1
        cases f1
      have f2 : (upd H1 t (.tup [.str n, v])) l = some (.lst []) := by rw [upd_ne hlt]; exact f1
      refine ⟨l, _, _, rfl, rfl, f2, by decide, k t _ ((Gr.new nt).put f2 (.inr rfl)) upd_same ?_⟩
      rw [upd_ne hlt.symm]
      exact upd_same⟩
    have lst1 : tyV K "list" (V.ref l) H1 := .inl ⟨rfl, _, sqL f1⟩
    rcases (by omega : i = 0 ∨ i = 1 ∨ i = 2) with rfl | rfl | rfl
    · cases hi
      refine is_own3 (i := 0) TE rfl hf1 (j := 0) rfl ⟨true, rfl, iteT ⟨lst1, V.ref p.1, rfl, ⟨rfl, dd, fs, v, rfl, hdd, hv, TE.nof 0 _ rfl, (put fun t H2 g h1 h2 => ?_)⟩⟩⟩
      exact is_own3 (i := 0) TE rfl (hf1.up g) (j := 1) rfl ⟨false, rfl, iteF (is_own3 (i := 0) TE rfl (hf1.up g) (j := 2) rfl ⟨false, rfl, iteF (tail t H2 g h1 h2)⟩)⟩
    · cases hi
      refine is_own3 (i := 1) TE rfl hf1 (j := 0) rfl ⟨false, rfl, iteF (is_own3 (i := 1) TE rfl hf1 (j := 1) rfl ⟨true, rfl, iteT ⟨lst1, V.ref p.1, rfl, ⟨rfl, dd, fs, v, rfl, hdd, hv, TE.nof 1 _ rfl, (put fun t H2 g h1 h2 => ?_)⟩⟩⟩)⟩
      exact is_own3 (i := 1) TE rfl (hf1.up g) (j := 2) rfl ⟨false, rfl, iteF (tail t H2 g h1 h2)⟩
    · cases hi
      exact is_own3 (i := 2) TE rfl hf1 (j := 0) rfl ⟨false, rfl, iteF (is_own3 (i := 2) TE rfl hf1 (j := 1) rfl ⟨false, rfl, iteF (is_own3 (i := 2) TE rfl hf1 (j := 2) rfl ⟨true, rfl, iteT ⟨lst1, V.ref p.1, rfl, ⟨rfl, dd, fs, v, rfl, hdd, hv, TE.nof 2 _ rfl, (put fun t H2 g h1 h2 => tail t H2 g h1 h2)⟩⟩⟩)⟩)⟩
end
end K11

namespace K11
open PySem PySem.Spec PyProof.Rows L2 Z ZE LamX
local macro_rules | `(tactic| walk_at "rd") => `(tactic| try simp only [cxOf, tSeq, tIfS, tRet, tRetN, tAsg, tDrop, tNext, tBreak, tCont, tNever, tPar, tPar3, tAug, gName, gTup, gCons, gNil, gSub, tVar, tC, tOp, tUn, tCB, tBM, tBM0, tCons, tNil, tTest, tB, tAnd, tOr, tNot, tAndV, tOrV, tNotV, tIf, tChain,
  tTup, tLst, tCall, tMeth, tSl, tPart, tNoPart, tM1, tFmt, tJs_nil, tJs_cons, tCKw, rI0, rI, rU, rEq, rNe, scal_ii, scal_ss, scal_bb, ipI, iStr, iTup, iList, iRng1, sFld, tFld, L2.start, List.getElem?_cons_zero, List.getElem?_cons_succ, List.set_cons_zero, List.set_cons_succ, Option.some.injEq, V.int.injEq, V.bl.injEq, V.str.injEq, V.ref.injEq,
  List.cons.injEq, exists_and_left, exists_eq_left', exists_eq_left, exists_eq_right, exists_eq_right', exists_eq', exists_eq, and_true, true_and, and_self, List.map_cons, List.map_nil, List.length_cons, List.length_nil, List.replicate_succ, List.replicate_zero, List.cons_append, List.nil_append, List.append_nil,
  Nat.add_sub_cancel, Nat.reduceAdd, Nat.reduceSub, if_true, if_false, ite_true, ite_false, Bool.not_true, Bool.not_false, Bool.true_eq_false, Bool.false_eq_true, reduceIte, reduceCtorEq, false_and, exists_false, or_false, false_or, decide_true, decide_false, wipe])

section
variable {P : Program} {w : World} {K : PySem.W.Frag} {mg : Str → Option Value} {base : Heap}
/-- the wish about errors: the pair that tells this one -/
def ECau (K : PySem.W.Frag) (Q : VK) : XK := fun cls d H2 => ∃ (i : Nat) (n : Str) (fs : List (Str × V)) (v : V), er3N[i]? = some n ∧ cls = .ref (He.ga K n) ∧ ErFs H2 d fs ∧ fs.lookup (er3F i) = some v ∧ ∀ t H3, Ex H2 H3 → H3 t = some (.tup [.str n, v]) → Q (.ref t) H3
def TCau (K : PySem.W.Frag) : (XK → Hp → VK → Prop) → Hp → VK → Prop := fun tl H Q => tl (ECau K Q) H fun v H2 => 2 ≤ sizeLine ∧ ∀ t, H2 t = none → Q (.ref t) (upd H2 t (.tup [.str "let", v]))
abbrev s_law_caught : Stmt := topS 115
theorem sc_law_caught : FnScope ["_law_act", "_law_given", "_law_e"] ["_law_act"] (defScope s_law_caught) := ⟨rfl, rfl, rfl, by decide +kernel, rfl, by decide +kernel, by decide +kernel⟩
theorem caught_gives {X : Cx} {g : Addr} {cdg : Value} {q : Str} (hP : X.prog = P) (hw : X.w = w) (hK : X.K = K) (hm : X.mg = mg) (hb : X.base = base) (B : Bl mg) (G : Gl3 K mg) (TE : Er3 K)
    (c_law_sort : CalE P w K mg base 1 "_law_sort" ["_law_e"] (spSort K)) (hgd : X.A.guards = some []) (hr : Room 6 X.A) :
    GivesG X ["_law_act", "_law_given", "_law_e"] "_law_caught" (defScope s_law_caught) g cdg (defBody s_law_caught) "_law_act" q (TCau K) := by
  subst hP hw hK hm hb
  intro f c' s H Q tl act hc h
  have hr5 : Room 5 (X.A.deeper (envOfC "_law_caught" (defScope s_law_caught) s.heap.objs.size g cdg)) := hr.deeper _
  have hgZ : (X.A.deeper (envOfC "_law_caught" (defScope s_law_caught) s.heap.objs.size g cdg)).guards = some [] := hgd
  have hgS : ∀ p : Pin, ((X.A.deeper (envOfC "_law_caught" (defScope s_law_caught) s.heap.objs.size g cdg)).mark (some (.ref p.1))).guards = some [] := fun _ => hgd
  have hrS : ∀ p : Pin, L2H.RoomH 5 ((X.A.deeper (envOfC "_law_caught" (defScope s_law_caught) s.heap.objs.size g cdg)).mark (some (.ref p.1))) := fun _ => ⟨hr5.dp, hr5.un⟩
  have hB : ∀ {a1 a2 a3 a4 : Pos} (W : WX) (pn : List (Addr × Obj)) (xe : Value → Shared → Prop), Takes ((cxOf C8.CX0 X.prog X.w X.K X.mg X.base ["_law_act", "_law_given", "_law_e"] "_law_caught" (defScope s_law_caught) g cdg X.A X.stack s H C8.E0).nox.tr pn xe) W →
      PassesOwn (model X.prog X.w) (cxOf C8.CX0 X.prog X.w X.K X.mg X.base ["_law_act", "_law_given", "_law_e"] "_law_caught" (defScope s_law_caught) g cdg X.A X.stack s H C8.E0).A (cxOf C8.CX0 X.prog X.w X.K X.mg X.base ["_law_act", "_law_given", "_law_e"] "_law_caught" (defScope s_law_caught) g cdg X.A X.stack s H C8.E0).env xe →
      PSs ((cxOf C8.CX0 X.prog X.w X.K X.mg X.base ["_law_act", "_law_given", "_law_e"] "_law_caught" (defScope s_law_caught) g cdg X.A X.stack s H C8.E0).nox.tr pn xe) [Stmt.Assign [.Name "_law_given" a1] (.Call (.Name "_law_act" a2) [] [] a3) a4]
        ((fun W D σ H' => σ[0]? = some (some (.ref f)) ∧ H' c' = some (CodeO c' q) ∧ ∃ E : XK, (∀ cls d H'', E cls d H'' → W cls d σ H'') ∧ tl E H' fun v H2 => D.nx (σ.set 1 (some v)) H2) W) := fun {a1 a2 a3 a4} W pn xe tk _ =>
    pss_one (ps_set (i := 1) sc_law_caught.nd rfl (.inl rfl) (act W pn xe _ _ tk))
  refine ⟨_, (pss_cons (ps_try_as3 (i := 2) rfl rfl sc_law_caught.nd rfl rfl (by rfl) (by rfl) (by rfl) G.WrongValue_ G.WrongName_ G.NoAnswer_ hB (fun p cls d pn hz hf => (pss_one (ps_ret (pe_calE (p := p) c_law_sort (hgS p) List.mem_cons_self (hrS p) (by decide) rfl (pa_cons (pv 2) pa_nil))))))
      (pss_one (ps_ret (pe_tup (pa_cons pe_str (pa_cons (pv 1) pa_nil)))))), ?_⟩
  walk_at "rd"
  refine ⟨hc, ECau X.K Q, fun cls d H2 hE => ?_, h⟩
  obtain ⟨i, n, fs, v, hi, rfl, hf, hv, q⟩ := hE
  refine ⟨TE.exm i n hi, fun p np hz hp => ?_⟩
  walk_at "rd"
  unfold tCallE
  walk_at "rd"
  exact ⟨i, n, d, fs, v, rfl, hi, ⟨hz, hp⟩, hf, hv, q⟩
structure CauD (P : Program) (w : World) (K : PySem.W.Frag) (mg : Str → Option Value) (base : Heap) : Prop where
  d : Df K mg "_law_caught" s_law_caught
  b : Bl mg
  g : Gl3 K mg
  te : Er3 K
  so : CalE P w K mg base 1 "_law_sort" ["_law_e"] (spSort K)
/-- _law_caught(lambda: body) -/
theorem pe_cau {X : Cx} {T : List (Addr × Str)} {c Pt : Addr} {k j : Nat} {params : Arguments} {body : Expr} {scope : Scope} {t : XK → TE} {p lpos pos : Pos} (C : CauD X.prog X.w X.K X.mg X.base) (hgd : X.A.guards = some [])
    (TB : TabB X.base X.mg c Pt) (hcode : X.env.code = .ref c) (hmT : (Pt, X.env.qual ++ "<lambda>") ∈ T) (hu : ∀ p ∈ T, p.1 = Pt → p.2 = X.env.qual ++ "<lambda>") (hr : Room j X.A) (hkj : k + 6 ≤ j) (L : LamS X.env.scope scope) (hdef : defaultsOf params X.env = ([], []))
    (hbind : ∀ (q : Str) (cl : List (Str × Addr)) (pm cv ctv : Value), bindArgs (PySem.W.kla_fn "<lambda>" q params body scope cl pm cv ctv) ⟨[], []⟩ = pure [])
    (hbody : ∀ (A : Around) (outer : List Env) (s : Shared) (H : Hp) (E : XK) (f c' : Addr), A.guards = some [] → Room k (A.deeper (lamEnv X scope s.heap.objs.size f c')) → PE (lamCx X A outer s H E scope f c') body (t E))
    (hg : Gl X "_law_caught" := by rfl) :
    PE X (.Call (.Name "_law_caught" p) [.Lambda params body scope lpos] [] pos) (tLam T (TCau X.K) t) := by
  obtain ⟨f, fd, hm, F⟩ := C.d.ex
  have hb := F.bindsN (ps := ["_law_act"]) (fun _ _ _ _ _ _ us hl => match us, hl with | [_], _ => rfl)
  obtain ⟨oc, od, dV, kV, doc, pm, an, cdv, ct, osl, rfl, lk, hcd, _, _⟩ := F.ex
  exact pe_lamG (k := k) (Ng := ["_law_act", "_law_given", "_law_e"]) (a := "_law_act") hg hm F.kp lk hcd hb sc_law_caught rfl (.inl rfl) (caught_gives rfl rfl rfl rfl rfl C.b C.g C.te C.so hgd (hr.mono (by omega))) hgd TB hcode hmT hu (hr.mono (by omega)) L hdef hbind hbody
end
/-! ### defs whose code object is known -/
structure DfT (K : PySem.W.Frag) (mg : Str → Option Value) (x : Str) (st : Stmt) (c : Addr) : Prop where
  ex : ∃ f fd, mg x = some (.ref f) ∧ FunD K x x (defArgs st) (defBody st) (defScope st) [] [] f fd ∧ fd.code = .ref c
abbrev BodyGT (P : Program) (w : World) (K : PySem.W.Frag) (mg : Str → Option Value) (base : Heap) (k : Nat) (q : Str) (N : List Str) (st : Stmt) (c : Addr) (sp : Sp) : Prop :=
  ∀ (f : Addr) (A : Around) (outer : List Env) (s : Shared) (H : Hp) (vs : List V) (Q : VK) (E : XK), A.guards = some [] → Room k (A.deeper (envOfC q (defScope st) s.heap.objs.size f (.ref c))) → sp vs H Q E →
    ∃ t, PSs (cxOf (L2.CX P w) P w K mg base N q (defScope st) f (.ref c) A outer s H E).nox (defBody st) t ∧ t { nx := fun _ H' => Q .non H', rt := Q } (L2.start N vs) H
theorem FunD.okGT {P : Program} {w : World} {K : PySem.W.Frag} {mg : Str → Option Value} {base : Heap} {x qual : Str} {params : Arguments} {body : List Stmt} {scope : Scope} {f c : Addr} {fd : FuncData} {N ps : List Str} {k : Nat} {sp : Sp} (F : FunD K x qual params body scope [] [] f fd) (hc : fd.code = .ref c) (S : FnScope N ps scope) (len : ∀ vs H Q E, sp vs H Q E → vs.length = ps.length)
    (hbody : ∀ (A : Around) (outer : List Env) (s : Shared) (H : Hp) (vs : List V) (Q : VK) (E : XK), A.guards = some [] → Room k (A.deeper (envOfC qual scope s.heap.objs.size f (.ref c))) → sp vs H Q E →
      ∃ t, PSs (cxOf (L2.CX P w) P w K mg base N qual scope f (.ref c) A outer s H E).nox body t ∧ t { nx := fun _ H' => Q .non H', rt := Q } (L2.start N vs) H) : FnG P w K mg base (k + 1) f fd ps sp := by
  obtain ⟨oc, od, dV, kV, doc, pm, an, cdv, ct, osl, rfl, lk, hcd, _, _⟩ := F.ex
  have e : cdv = .ref c := hc
  subst e
  refine ⟨len, fun A outer s H args us vs Q E hgd hr e0 hb r hsp => ?_⟩
  refine LamX.run_ofS lk hcd S hr e0 hb r (len _ _ _ _ hsp) fun hr2 => ?_
  obtain ⟨t, h1, h2⟩ := hbody A outer s H vs Q E hgd hr2 hsp
  exact ⟨t, h1.nox, h2⟩
theorem DfT.calG {P : Program} {w : World} {K : PySem.W.Frag} {mg : Str → Option Value} {base : Heap} {x : Str} {st : Stmt} {N ps : List Str} {k : Nat} {c : Addr} {sp : Sp} (D : DfT K mg x st c) (S : FnScope N ps (defScope st)) (hb : Bnd x x st ps) (len : ∀ vs H Q E, sp vs H Q E → vs.length = ps.length)
    (body : BodyGT P w K mg base k x N st c sp) : CalG P w K mg base (k + 1) x ps sp := by
  obtain ⟨f, fd, hm, F, hc⟩ := D.ex
  exact ⟨f, fd, hm, F.kp, F.bindsN hb, FunD.okGT F hc S len fun A outer s H vs Q E hgd hr h => body f A outer s H vs Q E hgd hr h⟩
end K11

namespace K11
open PySem PySem.Spec PyProof.Rows L2 Z
local macro_rules | `(tactic| walk_at "rd") => `(tactic| try simp only [cxOf, tSeq, tIfS, tRet, tRetN, tAsg, tDrop, tNext, tBreak, tCont, tNever, tPar, tPar3, tAug, gName, gTup, gCons, gNil, gSub, tVar, tC, tOp, tUn, tCB, tBM, tBM0, tCons, tNil, tTest, tB, tAnd, tOr, tNot, tAndV, tOrV, tNotV, tIf, tChain,
  tTup, tLst, tCall, tMeth, tSl, tPart, tNoPart, tM1, tFmt, tJs_nil, tJs_cons, tCKw, rI0, rI, rU, rEq, rNe, scal_ii, scal_ss, scal_bb, ipI, iStr, iTup, iList, iRng1, sFld, tFld, L2.start, List.getElem?_cons_zero, List.getElem?_cons_succ, List.set_cons_zero, List.set_cons_succ, Option.some.injEq, V.int.injEq, V.bl.injEq, V.str.injEq, V.ref.injEq,
  List.cons.injEq, exists_and_left, exists_eq_left', exists_eq_left, exists_eq_right, exists_eq_right', exists_eq', exists_eq, and_true, true_and, and_self, List.map_cons, List.map_nil, List.length_cons, List.length_nil, List.replicate_succ, List.replicate_zero, List.cons_append, List.nil_append, List.append_nil,
  Nat.add_sub_cancel, Nat.reduceAdd, Nat.reduceSub, if_true, if_false, ite_true, ite_false, Bool.not_true, Bool.not_false, Bool.true_eq_false, Bool.false_eq_true, reduceIte, reduceCtorEq, false_and, exists_false, or_false, false_or, decide_true, decide_false, wipe])

def D.areWorths (d : D) (n : Int) : Bool := match d with
  | .tup l => decide ((l.length : Int) = n) && l.all (fun d => d.isIn 0 6)
  | _ => false
def D.short (d : D) : Prop := match d with
  | .tup l => l.length ≤ 1000
  | .str s => s.length ≤ 90000
  | _ => True
theorem D.short.fits {d : D} (h : D.short d) : d.fits := by
  cases d <;> first | exact trivial | exact Nat.le_trans h (by decide)
def D.isKind (d : D) (n : Int) : Bool := match d with
  | .tup [a, b, c] => a.isName && (b.isIn 1 3 && D.areWorths c n)
  | _ => false
/-- the parts of a triple are short -/
def D.short3 (d : D) : Prop := match d with
  | .tup [a, b, c] => D.short a ∧ D.short b ∧ D.short c
  | _ => True
theorem D.tup_of {d : D} (h : decide (d.tg = .tup) = true) : ∃ l, d = .tup l := by
  cases d <;> first | exact ⟨_, rfl⟩ | cases h
theorem D.isKind_not {l : List D} {n : Int} (h : l.length ≠ 3) : D.isKind (.tup l) n = false := by
  cases l with
  | nil => rfl
  | cons a l =>
    cases l with
    | nil => rfl
    | cons b l =>
      cases l with
      | nil => rfl
      | cons c l =>
        cases l with
        | nil => exact absurd rfl h
        | cons d l => rfl
section
variable {P : Program} {w : World} {K : PySem.W.Frag} {mg : Str → Option Value} {base : Heap}
abbrev s_is_tuple_of : Stmt := topS 31
theorem sc_is_tuple_of : FnScope ["value", "many"] ["value", "many"] (defScope s_is_tuple_of) := ⟨rfl, rfl, rfl, by decide +kernel, rfl, by decide +kernel, by decide +kernel⟩
def D.isTupN (d : D) (n : Int) : Bool := match d with
  | .tup l => decide ((l.length : Int) = n)
  | _ => false
def spTupOf (K : PySem.W.Frag) : Sp := fun vs H Q _ => ∃ v d, ∃ n : Int, vs = [v, .int n] ∧ DT K H v d ∧ Q (.bl (D.isTupN d n)) H
theorem ok_is_tuple_of (B : Bl mg) (D0 : Df K mg "is_tuple_of" s_is_tuple_of) : Cal P w K mg base 1 "is_tuple_of" ["value", "many"] (spTupOf K) := by
  refine D0.cal sc_is_tuple_of (fun _ _ _ _ _ _ us hl => match us, hl with | [_, _], _ => rfl) (fun vs H Q E h => ?_) (fun f cdv A outer s H vs Q E hr h => ?_)
  · obtain ⟨v, d, n, rfl, _⟩ := h
    rfl
  · obtain ⟨v, d, n, rfl, hd, q⟩ := h
    refine ⟨_, (pss_one (ps_ret (pe_and (pe_callB (r := rIsi K) call_isi (by rfl) B.isinstance_ (by decide +kernel) (pa_cons (pv 0) (pa_cons (pe_bltn (by rfl) B.tuple_ (by decide +kernel) (v := .ty "tuple") rfl) pa_nil))) (pe_one (pe_cmpR op_eq (pe_callB (r := rLenQ K) call_len_seq (by rfl) B.len_ PySem.boot_len (pa_cons (pv 0) pa_nil)) (pv 1) (nomark _)))))), ?_⟩
    walk_at "rd"
    refine isi_tup hd.tyd ?_
    cases hi : decide (d.tg = .tup)
    · have e : D.isTupN d n = false := by
        cases d <;> first | rfl | cases hi
      rw [e] at q
      exact ⟨false, rfl, iteF q⟩
    · obtain ⟨l, rfl⟩ := D.tup_of hi
      cases hd with
      | tup hS hs =>
        rename_i a xs
        have hl := hs.len
        refine ⟨true, rfl, iteT ⟨a, xs, rfl, .inr hS, rfl, ?_⟩⟩
        have e : D.isTupN (.tup l) n = decide ((xs.length : Int) = n) := by rw [hl]; rfl
        rw [e] at q
        have e2 : decide (V.int (xs.length : Int) = V.int n) = decide ((xs.length : Int) = n) := by
          by_cases z : (xs.length : Int) = n
          · rw [decide_eq_true z, decide_eq_true (congrArg V.int z)]
          · rw [decide_eq_false z, decide_eq_false (fun y => z (V.int.inj y))]
        rw [e2]
        exact q
abbrev s_are_worths : Stmt := topS 40
theorem sc_are_worths : FnScope ["value", "many", "worth"] ["value", "many"] (defScope s_are_worths) := ⟨rfl, rfl, rfl, by decide +kernel, rfl, by decide +kernel, by decide +kernel⟩
def spWorths (K : PySem.W.Frag) : Sp := fun vs H Q _ => ∃ v d, ∃ n : Int, vs = [v, .int n] ∧ DT K H v d ∧ D.short d ∧ ∀ H', Ex H H' → Q (.bl (D.areWorths d n)) H'
theorem ok_are_worths (B : Bl mg) (k_MOST_WORTH : ∃ t, mg "MOST_WORTH" = some (.int 6 t)) (c_is_integer_within : Cal P w K mg base 2 "is_integer_within" ["value", "least", "most"] (spIsIn K)) (c_is_tuple_of : Cal P w K mg base 1 "is_tuple_of" ["value", "many"] (spTupOf K)) (D0 : Df K mg "are_worths" s_are_worths) :
    Cal P w K mg base 3 "are_worths" ["value", "many"] (spWorths K) := by
  refine D0.cal sc_are_worths (fun _ _ _ _ _ _ us hl => match us, hl with | [_, _], _ => rfl) (fun vs H Q E h => ?_) (fun f cdv A outer s H vs Q E hr h => ?_)
  · obtain ⟨v, d, n, rfl, _⟩ := h
    rfl
  · obtain ⟨v, d, n, rfl, hd, hz, q⟩ := h
    refine ⟨_, (pss_one (ps_ret (pe_and (pe_cal c_is_tuple_of hr (by decide) rfl (pa_cons (pv 0) (pa_cons (pv 1) pa_nil))) (pe_one (pe_callB (r := rAll K) (cr_all rfl) (by rfl) B.all_ (by decide +kernel) (pa_cons (pe_lc (own := [("worth", 2)]) (g := gName 2) rfl sc_are_worths.nd (pi_tup (pv 0)) (blkOk_by (N := ["value", "many", "worth"]) (sc := defScope s_are_worths) (by decide +kernel)) (fun _ _ _ _ _ => (pg_name (i := 2) sc_are_worths.nd rfl (.inl rfl))) (fun _ _ _ _ _ => pts_nil) (fun _ _ _ _ _ => (pe_cal c_is_integer_within hr (by decide) rfl (pa_cons (pv 2) (pa_cons pe_int (pa_cons (pe_gi rfl k_MOST_WORTH) pa_nil)))))) pa_nil)))))), ?_⟩
    walk_at "rd"
    refine ⟨v, d, n, rfl, hd, ?_⟩
    cases hi : D.isTupN d n
    · have e : D.areWorths d n = false := by
        cases d <;> first | rfl | (show (decide _ && _) = false; rw [show decide (_ = n) = false from hi]; rfl)
      rw [e] at q
      exact ⟨false, rfl, iteF (q H .refl)⟩
    · obtain ⟨l, rfl⟩ : ∃ l, d = .tup l := by
        cases d <;> first | exact ⟨_, rfl⟩ | cases hi
      refine ⟨true, rfl, iteT ?_⟩
      cases hd with
      | tup hS hs =>
        rename_i a xs
        have hl := hs.len
        have hn : (l.length : Int) = n := of_decide_eq_true hi
        refine lcTf (a := a) (xs := xs) (fun R h => ⟨_, rfl, h⟩) hS (by have : l.length ≤ 1000 := hz; omega) (l.map fun d => .bl (d.isIn 0 6)) (by rw [List.length_map, hl]) ?_ ?_
        · intro i x z H' Q' hx hz' e q'
          obtain ⟨d, h1, h2⟩ := hs.get hx
          rw [List.getElem?_map, h1] at hz'
          cases hz'
          walk_at "rd"
          exact ⟨x, d, 0, 6, rfl, h2.mono e.any, q' H' .refl⟩
        · intro D1 H' hD e h1
          refine ⟨D1, l.map fun d => d.isIn 0 6, rfl, sqL (by rw [List.map_map]; exact h1), ?_⟩
          have e2 : D.areWorths (.tup l) n = (l.map fun d => d.isIn 0 6).all id := by
            rw [D.areWorths, List.all_map, decide_eq_true hn]
            rfl
          rw [← e2]
          exact q H' e
abbrev s_is_kind : Stmt := topS 44
theorem sc_is_kind : FnScope ["value", "worths_wanted", "name", "count", "worths"] ["value", "worths_wanted"] (defScope s_is_kind) := ⟨rfl, rfl, rfl, by decide +kernel, rfl, by decide +kernel, by decide +kernel⟩
def spKind (K : PySem.W.Frag) : Sp := fun vs H Q _ => ∃ v d, ∃ n : Int, vs = [v, .int n] ∧ DT K H v d ∧ D.short3 d ∧ ∀ H', Ex H H' → Q (.bl (D.isKind d n)) H'
theorem ok_is_kind (B : Bl mg) (k_MOST_COUNT : ∃ t, mg "MOST_COUNT" = some (.int 3 t)) (c_is_name : Cal P w K mg base 1 "is_name" ["value"] (spName K))
    (c_is_integer_within : Cal P w K mg base 2 "is_integer_within" ["value", "least", "most"] (spIsIn K)) (c_is_tuple_of : Cal P w K mg base 1 "is_tuple_of" ["value", "many"] (spTupOf K)) (c_are_worths : Cal P w K mg base 3 "are_worths" ["value", "many"] (spWorths K)) (D0 : Df K mg "_is_kind" s_is_kind) :
    Cal P w K mg base 4 "_is_kind" ["value", "worths_wanted"] (spKind K) := by
  refine D0.cal sc_is_kind (fun _ _ _ _ _ _ us hl => match us, hl with | [_, _], _ => rfl) (fun vs H Q E h => ?_) (fun f cdv A outer s H vs Q E hr h => ?_)
  · obtain ⟨v, d, n, rfl, _⟩ := h
    rfl
  · obtain ⟨v, d, n, rfl, hd, hz, q⟩ := h
    refine ⟨_, (pss_cons (ps_if (pt_not (pt_val (pe_cal c_is_tuple_of hr (by decide) rfl (pa_cons (pv 0) (pa_cons pe_int pa_nil))))) (pss_one (ps_ret pe_bl)) pss_nil)
      (pss_cons (ps_asg (pv 0) (pg_tup rfl (pgs_cons (pg_name (i := 2) sc_is_kind.nd rfl (.inl rfl)) (pgs_cons (pg_name (i := 3) sc_is_kind.nd rfl (.inl rfl)) (pgs_cons (pg_name (i := 4) sc_is_kind.nd rfl (.inl rfl)) pgs_nil)))))
      (pss_one (ps_ret (pe_and (pe_cal c_is_name hr (by decide) rfl (pa_cons (pv 2) pa_nil)) (pe_and (pe_cal c_is_integer_within hr (by decide) rfl (pa_cons (pv 3) (pa_cons pe_int (pa_cons (pe_gi rfl k_MOST_COUNT) pa_nil)))) (pe_one (pe_cal c_are_worths hr (by decide) rfl (pa_cons (pv 4) (pa_cons (pv 1) pa_nil)))))))))), ?_⟩
    walk_at "rd"
    refine ⟨v, d, 3, rfl, hd, ?_⟩
    cases hi : D.isTupN d 3
    · have e : D.isKind d n = false := by
        cases d with
        | tup l => exact D.isKind_not (fun z => by rw [show D.isTupN (.tup l) 3 = decide ((l.length : Int) = 3) from rfl, z] at hi; cases hi)
        | _ => rfl
      rw [e] at q
      exact ⟨false, rfl, iteT (q H .refl)⟩
    · obtain ⟨l, rfl⟩ : ∃ l, d = .tup l := by
        cases d <;> first | exact ⟨_, rfl⟩ | cases hi
      refine ⟨true, rfl, iteF ?_⟩
      cases hd with
      | tup hS hs =>
        rename_i a xs
        have hl := hs.len
        have hn3 : xs.length = 3 := by
          have : (l.length : Int) = 3 := of_decide_eq_true hi
          omega
        walk_at "rd"
        obtain ⟨x1, x2, x3, d1, d2, d3, rfl, rfl, h1, h2, h3⟩ := hs.three hn3
        · obtain ⟨z1, z2, z3⟩ := hz
          refine ⟨[x1, x2, x3], hS, rfl, x1, _, rfl, x2, _, rfl, x3, _, rfl, rfl, ?_⟩
          refine ⟨x1, d1, rfl, h1, z1.fits, fun H1 e1 => ?_⟩
          refine ⟨_, rfl, ?_⟩
          have eq : D.isKind (.tup [d1, d2, d3]) n = (d1.isName && (d2.isIn 1 3 && D.areWorths d3 n)) := rfl
          rw [eq] at q
          cases e4 : d1.isName
          · rw [e4] at q
            exact iteF (q H1 e1)
          · refine iteT ⟨x2, d2, 1, 3, rfl, h2.mono e1.any, ?_⟩
            refine ⟨_, rfl, ?_⟩
            cases e5 : d2.isIn 1 3
            · rw [e4, e5] at q
              exact iteF (q H1 e1)
            · rw [e4, e5] at q
              exact iteT ⟨x3, d3, n, rfl, h3.mono e1.any, z3, fun H2 e2 => q H2 (e1.trans e2)⟩
/-! ### names of rows -/
abbrev s_names : Stmt := topS 48
theorem sc_names : FnScope ["rows", "row"] ["rows"] (defScope s_names) := ⟨rfl, rfl, rfl, by decide +kernel, rfl, by decide +kernel, by decide +kernel⟩
def IsRow (K : PySem.W.Frag) (H : Hp) (v : V) (s : Str) : Prop := ∃ a r, v = .ref a ∧ SqT K H a (.str s :: r)
theorem IsRow.mono {H H' : Hp} {v : V} {s : Str} (h : IsRow K H v s) (e : Gr any H H') : IsRow K H' v s := by
  obtain ⟨a, r, rfl, h⟩ := h
  exact ⟨a, r, rfl, e.seqT h⟩
def spNames (K : PySem.W.Frag) : Sp := fun vs H Q _ => ∃ a xs, ∃ ss : List Str, vs = [.ref a] ∧ SqT K H a xs ∧ xs.length = ss.length ∧ ss.length ≤ 1000 ∧ (∀ (i : Nat) x s, xs[i]? = some x → ss[i]? = some s → IsRow K H x s) ∧
  ∀ l H', H l = none → Ex H H' → H' l = some (.lst (ss.map V.str)) → Q (.ref l) H'
theorem ok_names (D0 : Df K mg "_names" s_names) : Cal P w K mg base 1 "_names" ["rows"] (spNames K) := by
  refine D0.cal sc_names (fun _ _ _ _ _ _ us hl => match us, hl with | [_], _ => rfl) (fun vs H Q E h => ?_) (fun f cdv A outer s H vs Q E hr h => ?_)
  · obtain ⟨a, xs, ss, rfl, _⟩ := h
    rfl
  · obtain ⟨a, xs, ss, rfl, hS, hl, hz, hs, q⟩ := h
    refine ⟨_, (pss_one (ps_ret (pe_lc (own := [("row", 1)]) (g := gName 1) rfl sc_names.nd (pi_tup (pv 0)) (blkOk_by (N := ["rows", "row"]) (sc := defScope s_names) (by decide +kernel)) (fun _ _ _ _ _ => (pg_name (i := 1) sc_names.nd rfl (.inl rfl))) (fun _ _ _ _ _ => pts_nil) (fun _ _ _ _ _ => (pe_ix (r := rIxT K) ix_tup (pv 1) pe_int (fun _ _ => rfl)))))), ?_⟩
    walk_at "rd"
    refine lcTf (fun R h => ⟨_, rfl, h⟩) hS (by omega) (ss.map V.str) (by rw [List.length_map, hl]) ?_ ?_
    · intro i x z H' Q' hx hz' e q'
      rw [List.getElem?_map] at hz'
      cases e1 : ss[i]? with
      | none =>
        rw [e1] at hz'
        cases hz'
      | some s =>
        rw [e1] at hz'
        cases hz'
        obtain ⟨b, r, rfl, hb⟩ := (hs i x s hx e1).mono e.any
        walk_at "rd"
        exact ⟨b, _, 0, _, rfl, rfl, hb, atI_nat (j := 0) rfl, q' H' .refl⟩
    · intro D1 H' hD e h1
      exact q D1 H' hD e h1
abbrev s_most_people : Stmt := topS 47
theorem sc_most_people : FnScope ["measures_told"] ["measures_told"] (defScope s_most_people) := ⟨rfl, rfl, rfl, by decide +kernel, rfl, by decide +kernel, by decide +kernel⟩
def spMost : Sp := fun vs H Q _ => ∃ n : Int, vs = [.int n] ∧ Q (.int (if n = 1 then 3 else 2)) H
theorem ok_most_people (k_MOST_PEOPLE : ∃ t, mg "MOST_PEOPLE" = some (.int 3 t)) (D0 : Df K mg "_most_people" s_most_people) : Cal P w K mg base 1 "_most_people" ["measures_told"] spMost := by
  refine D0.cal sc_most_people (fun _ _ _ _ _ _ us hl => match us, hl with | [_], _ => rfl) (fun vs H Q E h => ?_) (fun f cdv A outer s H vs Q E hr h => ?_)
  · obtain ⟨n, rfl, _⟩ := h
    rfl
  · obtain ⟨n, rfl, q⟩ := h
    refine ⟨_, (pss_cons (ps_if (pt_cmpR op_eq (pv 0) pe_int (nomark _)) (pss_one (ps_ret (pe_gi rfl k_MOST_PEOPLE))) pss_nil)
      (pss_one (ps_ret (pe_op op_sub (pe_gi rfl k_MOST_PEOPLE) pe_int)))), ?_⟩
    walk_at "rd"
    by_cases h1 : n = 1
    · rw [if_pos h1] at q
      rw [decide_eq_true h1]
      exact iteT q
    · rw [if_neg h1] at q
      rw [decide_eq_false h1]
      exact iteF q
/-! ### refused kinds, people -/
/-- the texts of a tuple of texts -/
def D.strs (l : List D) : List Str := l.filterMap fun d => match d with
  | .str s => some s
  | _ => none
def D.areRefused (d : D) (ns : List Str) : Bool := match d with
  | .tup l => l.all D.isName && decide (D.strs l = ns.filter fun n => decide (n ∈ D.strs l))
  | _ => false
def D.shorts (d : D) : Prop := match d with
  | .tup l => l.length ≤ 1000 ∧ ∀ d ∈ l, D.short d
  | .str s => s.length ≤ 90000
  | _ => True
theorem strs_all {l : List D} (h : l.all D.isName = true) : l = (D.strs l).map D.str ∧ ∀ s ∈ D.strs l, nameOk s = true := by
  induction l with
  | nil => exact ⟨rfl, fun s hs => by cases hs⟩
  | cons d l ih =>
    rw [List.all_cons, Bool.and_eq_true] at h
    obtain ⟨h1, h2⟩ := h
    obtain ⟨e1, e2⟩ := ih h2
    cases d with
    | str s =>
      have e : D.strs (.str s :: l) = s :: D.strs l := rfl
      rw [e]
      refine ⟨by rw [List.map_cons, ← e1], fun t ht => ?_⟩
      rcases List.mem_cons.mp ht with rfl | ht
      · exact h1
      · exact e2 t ht
    | _ => cases h1
abbrev s_are_refused : Stmt := topS 46
theorem sc_are_refused : FnScope ["value", "kind_names", "name", "word"] ["value", "kind_names"] (defScope s_are_refused) := ⟨rfl, rfl, rfl, by decide +kernel, rfl, by decide +kernel, by decide +kernel⟩
def spRefused (K : PySem.W.Frag) : Sp := fun vs H Q _ => ∃ v d l, ∃ ns : List Str, vs = [v, .ref l] ∧ DT K H v d ∧ D.shorts d ∧ H l = some (.lst (ns.map V.str)) ∧ ns.length ≤ 1000 ∧ ∀ H', Ex H H' → Q (.bl (D.areRefused d ns)) H'
theorem ok_are_refused (B : Bl mg) (c_is_name : Cal P w K mg base 1 "is_name" ["value"] (spName K)) (D0 : Df K mg "_are_refused" s_are_refused) : Cal P w K mg base 2 "_are_refused" ["value", "kind_names"] (spRefused K) := by
  refine D0.cal sc_are_refused (fun _ _ _ _ _ _ us hl => match us, hl with | [_, _], _ => rfl) (fun vs H Q E h => ?_) (fun f cdv A outer s H vs Q E hr h => ?_)
  · obtain ⟨v, d, l, ns, rfl, _⟩ := h
    rfl
  · obtain ⟨v, d, l, ns, rfl, hd, hz, hn, hnl, q⟩ := h
    refine ⟨_, (pss_cons (ps_if (PW.pt (pw_or (pt_not (pt_val (pe_callB (r := rIsi K) call_isi (by rfl) B.isinstance_ (by decide +kernel) (pa_cons (pv 0) (pa_cons (pe_bltn (by rfl) B.tuple_ (by decide +kernel) (v := .ty "tuple") rfl) pa_nil))))) (pw_or1 (pt_not (pt_val (pe_callB (r := rAll K) (cr_all rfl) (by rfl) B.all_ (by decide +kernel) (pa_cons (pe_lc (own := [("word", 3)]) (g := gName 3) rfl sc_are_refused.nd (pi_tup (pv 0)) (blkOk_by (N := ["value", "kind_names", "name", "word"]) (sc := defScope s_are_refused) (by decide +kernel)) (fun _ _ _ _ _ => (pg_name (i := 3) sc_are_refused.nd rfl (.inl rfl))) (fun _ _ _ _ _ => pts_nil) (fun _ _ _ _ _ => (pe_cal c_is_name hr (by decide) rfl (pa_cons (pv 3) pa_nil)))) pa_nil))))))) (pss_one (ps_ret pe_bl)) pss_nil)
      (pss_one (ps_ret (pe_cmpR (r := rEqD K) (op_eqD hr.units) (pv 0) (pe_callTy (r := rTupOf K) call_tuple_of (by rfl) B.tuple_ (by decide +kernel) (pa_cons (pe_lc (own := [("name", 2)]) (g := gName 2) rfl sc_are_refused.nd (pi_list (pv 1)) (blkOk_by (N := ["value", "kind_names", "name", "word"]) (sc := defScope s_are_refused) (by decide +kernel)) (fun _ _ _ _ _ => (pg_name (i := 2) sc_are_refused.nd rfl (.inl rfl))) (fun _ _ _ _ _ => pts_one (pt_cmpR (r := rIn K false) op_in_seq (pv 2) (pv 0) (by rfl))) (fun _ _ _ _ _ => (pv 2))) pa_nil)) (nomark _))))), ?_⟩
    walk_at "rd"
    refine isi_tup hd.tyd ?_
    walk_at "rd"
    cases hi : decide (d.tg = .tup)
    · walk_at "rd"
      have e : D.areRefused d ns = false := by
        cases d <;> first | rfl | cases hi
      rw [e] at q
      exact q H .refl
    · obtain ⟨ds, rfl⟩ := D.tup_of hi
      cases hd with
      | tup hS hs =>
        rename_i a xs
        walk_at "rd"
        have hl := hs.len
        have hl2 : ds.length ≤ 1000 := hz.1
        refine lcTf (fun R h => ⟨_, rfl, h⟩) hS (by omega) (ds.map fun d => .bl d.isName) (by rw [List.length_map, hl]) ?_ ?_
        · intro i x z H' Q' hx hz' e q'
          obtain ⟨d, h1, h2⟩ := hs.get hx
          rw [List.getElem?_map, h1] at hz'
          cases hz'
          walk_at "rd"
          refine ⟨x, d, rfl, h2.mono e.any, (hz.2 d (List.mem_of_getElem? h1)).fits, fun H3 e3 => q' H3 e3⟩
        · intro D1 H1 hD e1 h1
          refine ⟨D1, ds.map D.isName, rfl, sqL (by rw [List.map_map]; exact h1), ?_⟩
          refine ⟨_, rfl, ?_⟩
          have ea : (ds.map D.isName).all id = ds.all D.isName := by rw [List.all_map]; rfl
          rw [ea]
          cases hall : ds.all D.isName
          · have e : D.areRefused (.tup ds) ns = false := by rw [D.areRefused, hall]; rfl
            rw [e] at q
            exact iteT (q H1 e1)
          · refine iteF ?_
            obtain ⟨eds, hok⟩ := strs_all hall
            have exs : xs = (D.strs ds).map V.str := by
              rw [eds] at hs
              exact hs.strs
            subst exs
            refine lcFilt (a := l) (xs := ns.map V.str) (fun R h => ⟨_, rfl, h⟩) (sqL (e1.get hn)) (by rw [List.length_map]; omega) (by show 2 < 4; decide) (fun v => inV v ((D.strs ds).map V.str)) ?_ ?_
            · intro x H' F hx e' q'
              obtain ⟨s', _, rfl⟩ := List.mem_map.mp hx
              walk_at "rd"
              exact ⟨a, _, rfl, .inr ((e1.trans e').seqT hS), rfl, Z.flat_strs _, _, rfl, q' H' .refl⟩
            · intro D2 H2 hD2 e2 h2
              refine ⟨D2, _, rfl, .inl ⟨sqL h2, fun T hT => ?_⟩⟩
              rw [filter_strs]
              have e3 : Ex H1 (upd H2 T (.tup ((ns.filter fun n => inV (.str n) ((D.strs ds).map V.str)).map V.str))) := e2.trans (.new hT)
              refine ⟨.tuple ((D.strs ds).map PyData.str), .tuple ((ns.filter fun n => inV (.str n) ((D.strs ds).map V.str)).map PyData.str), .tup ((e1.trans e3).seqT hS) (dp_strs _), .tup (sqT upd_same) (dp_strs _),
                shaped_strs fun s hs => strOk_of (hok s hs), shaped_strs fun s hs => ?_, ?_⟩
              · have h5 := (List.mem_filter.mp hs).2
                rw [inV_strs] at h5
                exact strOk_of (hok s (of_decide_eq_true h5))
              · have e6 : PyData.eqv (.tuple ((D.strs ds).map PyData.str)) (.tuple ((ns.filter fun n => inV (.str n) ((D.strs ds).map V.str)).map PyData.str)) = D.areRefused (.tup ds) ns := by
                  rw [D.areRefused, hall, Bool.true_and]
                  simp only [PyData.eqv]
                  rw [eqv_strs]
                  have e7 : (fun n => inV (.str n) ((D.strs ds).map V.str)) = fun n => decide (n ∈ D.strs ds) := funext fun n => inV_strs n _
                  rw [e7]
                rw [e6]
                exact q _ (e1.trans e3)
/-! ### a person -/
def D.isPerson (d : D) (ns : List Str) : Bool := match d with
  | .tup [a, b, c] => a.isName && (b.isIn 1 3 && D.areRefused c ns)
  | _ => false
theorem D.isPerson_not {l : List D} {n : List Str} (h : l.length ≠ 3) : D.isPerson (.tup l) n = false := by
  cases l with
  | nil => rfl
  | cons a l =>
    cases l with
    | nil => rfl
    | cons b l =>
      cases l with
      | nil => rfl
      | cons c l =>
        cases l with
        | nil => exact absurd rfl h
        | cons d l => rfl
def D.shortP (d : D) : Prop := match d with
  | .tup [a, b, c] => D.short a ∧ D.short b ∧ D.shorts c
  | _ => True
abbrev s_is_person : Stmt := topS 45
theorem sc_is_person : FnScope ["value", "kind_names", "name", "share", "refused"] ["value", "kind_names"] (defScope s_is_person) := ⟨rfl, rfl, rfl, by decide +kernel, rfl, by decide +kernel, by decide +kernel⟩
def spPerson (K : PySem.W.Frag) : Sp := fun vs H Q _ => ∃ v d l, ∃ ns : List Str, vs = [v, .ref l] ∧ DT K H v d ∧ D.shortP d ∧ H l = some (.lst (ns.map V.str)) ∧ ns.length ≤ 1000 ∧ ∀ H', Ex H H' → Q (.bl (D.isPerson d ns)) H'
theorem ok_is_person (B : Bl mg) (k_MOST_SHARE : ∃ t, mg "MOST_SHARE" = some (.int 3 t)) (c_is_name : Cal P w K mg base 1 "is_name" ["value"] (spName K))
    (c_is_integer_within : Cal P w K mg base 2 "is_integer_within" ["value", "least", "most"] (spIsIn K)) (c_is_tuple_of : Cal P w K mg base 1 "is_tuple_of" ["value", "many"] (spTupOf K)) (c_are_refused : Cal P w K mg base 2 "_are_refused" ["value", "kind_names"] (spRefused K)) (D0 : Df K mg "_is_person" s_is_person) :
    Cal P w K mg base 3 "_is_person" ["value", "kind_names"] (spPerson K) := by
  refine D0.cal sc_is_person (fun _ _ _ _ _ _ us hl => match us, hl with | [_, _], _ => rfl) (fun vs H Q E h => ?_) (fun f cdv A outer s H vs Q E hr h => ?_)
  · obtain ⟨v, d, l, ns, rfl, _⟩ := h
    rfl
  · obtain ⟨v, d, l, ns, rfl, hd, hz, hn, hnl, q⟩ := h
    refine ⟨_, (pss_cons (ps_if (pt_not (pt_val (pe_cal c_is_tuple_of hr (by decide) rfl (pa_cons (pv 0) (pa_cons pe_int pa_nil))))) (pss_one (ps_ret pe_bl)) pss_nil)
      (pss_cons (ps_asg (pv 0) (pg_tup rfl (pgs_cons (pg_name (i := 2) sc_is_person.nd rfl (.inl rfl)) (pgs_cons (pg_name (i := 3) sc_is_person.nd rfl (.inl rfl)) (pgs_cons (pg_name (i := 4) sc_is_person.nd rfl (.inl rfl)) pgs_nil)))))
      (pss_one (ps_ret (pe_and (pe_cal c_is_name hr (by decide) rfl (pa_cons (pv 2) pa_nil)) (pe_and (pe_cal c_is_integer_within hr (by decide) rfl (pa_cons (pv 3) (pa_cons pe_int (pa_cons (pe_gi rfl k_MOST_SHARE) pa_nil)))) (pe_one (pe_cal c_are_refused hr (by decide) rfl (pa_cons (pv 4) (pa_cons (pv 1) pa_nil)))))))))), ?_⟩
    walk_at "rd"
    refine ⟨v, d, 3, rfl, hd, ?_⟩
    cases hi : D.isTupN d 3
    · have e : D.isPerson d ns = false := by
        cases d with
        | tup l => exact D.isPerson_not (fun z => by rw [show D.isTupN (.tup l) 3 = decide ((l.length : Int) = 3) from rfl, z] at hi; cases hi)
        | _ => rfl
      rw [e] at q
      exact ⟨false, rfl, iteT (q H .refl)⟩
    · obtain ⟨l, rfl⟩ : ∃ l, d = .tup l := by
        cases d <;> first | exact ⟨_, rfl⟩ | cases hi
      refine ⟨true, rfl, iteF ?_⟩
      cases hd with
      | tup hS hs =>
        rename_i a xs
        have hl := hs.len
        have hn3 : xs.length = 3 := by
          have : (l.length : Int) = 3 := of_decide_eq_true hi
          omega
        walk_at "rd"
        obtain ⟨x1, x2, x3, d1, d2, d3, rfl, rfl, h1, h2, h3⟩ := hs.three hn3
        obtain ⟨z1, z2, z3⟩ := hz
        refine ⟨[x1, x2, x3], hS, rfl, x1, _, rfl, x2, _, rfl, x3, _, rfl, rfl, ?_⟩
        refine ⟨x1, d1, rfl, h1, z1.fits, fun H1 e1 => ?_⟩
        refine ⟨_, rfl, ?_⟩
        have eq : D.isPerson (.tup [d1, d2, d3]) ns = (d1.isName && (d2.isIn 1 3 && D.areRefused d3 ns)) := rfl
        rw [eq] at q
        cases e4 : d1.isName
        · rw [e4] at q
          exact iteF (q H1 e1)
        · refine iteT ⟨x2, d2, 1, 3, rfl, h2.mono e1.any, ?_⟩
          refine ⟨_, rfl, ?_⟩
          cases e5 : d2.isIn 1 3
          · rw [e4, e5] at q
            exact iteF (q H1 e1)
          · rw [e4, e5] at q
            exact iteT ⟨x3, d3, l, ns, rfl, h3.mono e1.any, z3, e1.get hn, hnl, fun H2 e2 => q H2 (e1.trans e2)⟩
end
end K11

namespace K11
open PySem PySem.Spec PyProof.Rows L2 Z ZE
local macro_rules | `(tactic| walk_at "rd") => `(tactic| try simp only [cxOf, tSeq, tIfS, tRet, tRetN, tAsg, tDrop, tNext, tBreak, tCont, tNever, tPar, tPar3, tAug, gName, gTup, gCons, gNil, gSub, tVar, tC, tOp, tUn, tCB, tBM, tBM0, tCons, tNil, tTest, tB, tAnd, tOr, tNot, tAndV, tOrV, tNotV, tIf, tChain,
  tTup, tLst, tCall, tMeth, tSl, tPart, tNoPart, tM1, tFmt, tJs_nil, tJs_cons, tCKw, rI0, rI, rU, rEq, rNe, scal_ii, scal_ss, scal_bb, ipI, iStr, iTup, iList, iRng1, sFld, tFld, L2.start, List.getElem?_cons_zero, List.getElem?_cons_succ, List.set_cons_zero, List.set_cons_succ, Option.some.injEq, V.int.injEq, V.bl.injEq, V.str.injEq, V.ref.injEq,
  List.cons.injEq, exists_and_left, exists_eq_left', exists_eq_left, exists_eq_right, exists_eq_right', exists_eq', exists_eq, and_true, true_and, and_self, List.map_cons, List.map_nil, List.length_cons, List.length_nil, List.replicate_succ, List.replicate_zero, List.cons_append, List.nil_append, List.append_nil,
  Nat.add_sub_cancel, Nat.reduceAdd, Nat.reduceSub, if_true, if_false, ite_true, ite_false, Bool.not_true, Bool.not_false, Bool.true_eq_false, Bool.false_eq_true, reduceIte, reduceCtorEq, false_and, exists_false, or_false, false_or, decide_true, decide_false, wipe])

section
variable {P : Program} {w : World} {K : PySem.W.Frag} {mg : Str → Option Value} {base : Heap}
abbrev s_check_measures : Stmt := topS 41
theorem sc_check_measures : FnScope ["measures", "at", "name"] ["measures"] (defScope s_check_measures) := ⟨rfl, rfl, rfl, by decide +kernel, rfl, by decide +kernel, by decide +kernel⟩
def spCkM (K : PySem.W.Frag) : Sp := fun vs H Q _ => ∃ a, ∃ ms : List Str, vs = [.ref a] ∧ SqT K H a (ms.map V.str) ∧ (1 ≤ ms.length ∧ ms.length ≤ 2) ∧ (∀ s ∈ ms, nameOk s = true) ∧ ms.Nodup ∧ ∀ H', Ex H H' → Q .non H'
theorem ok_check_measures (B : Bl mg) (k_MOST_MEASURES : ∃ t, mg "_MOST_MEASURES" = some (.int 2 t)) (c_is_name : Cal P w K mg base 1 "is_name" ["value"] (spName K)) (D0 : Df K mg "_check_measures" s_check_measures) :
    Cal P w K mg base 3 "_check_measures" ["measures"] (spCkM K) := by
  refine D0.cal sc_check_measures (fun _ _ _ _ _ _ us hl => match us, hl with | [_], _ => rfl) (fun vs H Q E h => ?_) (fun f cdv A outer s H vs Q E hr h => ?_)
  · obtain ⟨a, ms, rfl, _⟩ := h
    rfl
  · obtain ⟨a, ms, rfl, hS, hl, hn, hd, q⟩ := h
    refine ⟨_, (pss_cons (ps_if (PW.pt (pw_or (pt_not (pt_val (pe_callB (r := rIsi K) call_isi (by rfl) B.isinstance_ (by decide +kernel) (pa_cons (pv 0) (pa_cons (pe_bltn (by rfl) B.tuple_ (by decide +kernel) (v := .ty "tuple") rfl) pa_nil))))) (pw_or1 (pt_cmpR op_eq (pe_callB (r := rLenQ K) call_len_seq (by rfl) B.len_ PySem.boot_len (pa_cons (pv 0) pa_nil)) pe_int (nomark _))))) (pss_one ps_never) pss_nil)
      (pss_one (ps_for PassesOwn.never rfl (pi_enumT rfl B.enumerate_ (pa_cons (pv 0) pa_nil)) (pg_tup rfl (pgs_cons (pg_name (i := 1) sc_check_measures.nd rfl (.inl rfl)) (pgs_cons (pg_name (i := 2) sc_check_measures.nd rfl (.inl rfl)) pgs_nil))) (pss_one (ps_if (PW.pt (pw_or (pt_cmpR op_eq (pv 1) (pe_gi rfl k_MOST_MEASURES) (nomark _)) (pw_or (pt_not (pt_val (pe_cal c_is_name hr (by decide) rfl (pa_cons (pv 2) pa_nil)))) (pw_or1 (pt_cmpR (r := rIn K false) op_in_seq (pv 2) (pe_slice (r := rSlA K) sl_tupA (pv 0) po_none (po_some (pv 1))) (by rfl)))))) (pss_one ps_never) pss_nil))))), ?_⟩
    walk_at "rd"
    refine isi_tup (tyd_sqT hS) ?_
    walk_at "rd"
    refine ⟨a, _, rfl, .inr hS, ?_⟩
    walk_at "rd"
    rw [decide_eq_false (show ¬ ((ms.map V.str).length : Int) = 0 by rw [List.length_map]; omega)]
    walk_at "rd"
    refine forE (fun R h => ⟨_, rfl, h⟩) hS (fun i σ' H' => ∃ y z, σ' = [some (.ref a), y, z] ∧ Ex H H') ⟨_, _, rfl, .refl⟩ (fun i σ' H' p => by
      obtain ⟨_, _, _, e⟩ := p
      exact e.seqT hS) ?_ ?_
    · rintro i x T σ' H' hx ⟨y, z, rfl, e⟩ hT
      obtain ⟨s, hs, rfl⟩ : ∃ s, ms[i]? = some s ∧ x = .str s := by
        rw [List.getElem?_map] at hx
        cases e1 : ms[i]? with
        | none =>
          rw [e1] at hx
          cases hx
        | some s =>
          rw [e1] at hx
          cases hx
          exact ⟨s, rfl, rfl⟩
      have hi : i < ms.length := (List.getElem?_eq_some_iff.mp hs).1
      have hns := hn s (List.mem_of_getElem? hs)
      walk_at "rd"
      refine ⟨_, sqT upd_same, rfl, _, _, rfl, _, _, rfl, rfl, ?_⟩
      walk_at "rd"
      rw [decide_eq_false (show ¬ (i : Int) = 2 by omega)]
      walk_at "rd"
      refine ⟨.str s, .str s, rfl, .str s, Nat.le_trans (nameOk_len hns).2 (by decide), fun H1 e1 => ?_⟩
      refine ⟨true, by rw [D.isName, hns], ?_⟩
      walk_at "rd"
      have e2 : Ex H H1 := (e.trans (.new hT)).trans e1
      refine slA_take (e2.seqT hS) fun p H2 e3 h3 => ?_
      refine ⟨p, _, rfl, .inr h3, rfl, by rw [← List.map_take]; exact Z.flat_strs _, ?_⟩
      walk_at "rd"
      rw [← List.map_take, inV_strs, decide_eq_false (not_mem_take hd hs)]
      walk_at "rd"
      exact ⟨_, _, ⟨rfl, rfl⟩, e2.trans e3⟩
    · rintro σ' H' ⟨y, z, rfl, e⟩
      exact q H' e
theorem all_isIn {ws : List Int} {lo hi : Int} (h : ∀ x ∈ ws, lo ≤ x ∧ x ≤ hi) : (ws.map D.int).all (fun d => d.isIn lo hi) = true := by
  rw [List.all_map, List.all_eq_true]
  intro x hx
  obtain ⟨h1, h2⟩ := h x hx
  show (decide (lo ≤ x) && decide (x ≤ hi)) = true
  rw [decide_eq_true h1, decide_eq_true h2]
  rfl
theorem Kd.isKind {m : Nat} {k : Kd} (h : Kd.ok m k) : D.isKind k.d (m : Int) = true := by
  have e : D.isKind k.d (m : Int) = (nameOk k.n && ((decide (1 ≤ k.c) && decide (k.c ≤ 3)) && (decide (((k.w.map D.int).length : Int) = (m : Int)) && (k.w.map D.int).all fun d => d.isIn 0 6))) := rfl
  rw [e, h.n, decide_eq_true h.c.1, decide_eq_true h.c.2, all_isIn h.w, decide_eq_true (by rw [List.length_map, h.l])]
  rfl
theorem Kd.short {m : Nat} {k : Kd} (h : Kd.ok m k) (hm : m ≤ 2) : D.short3 k.d := by
  refine ⟨?_, trivial, ?_⟩
  · show k.n.length ≤ 90000
    exact Nat.le_trans (nameOk_len h.n).2 (by decide)
  · show (k.w.map D.int).length ≤ 1000
    rw [List.length_map, h.l]
    omega
abbrev s_check_kinds : Stmt := topS 42
theorem sc_check_kinds : FnScope ["kinds", "worths_wanted", "at", "kind"] ["kinds", "worths_wanted"] (defScope s_check_kinds) := ⟨rfl, rfl, rfl, by decide +kernel, rfl, by decide +kernel, by decide +kernel⟩
def spCkK (K : PySem.W.Frag) : Sp := fun vs H Q _ => ∃ a xs, ∃ (m : Nat) (ks : List Kd), vs = [.ref a, .int (m : Int)] ∧ SqT K H a xs ∧ DTs K H xs (ks.map Kd.d) ∧ m ≤ 2 ∧ (1 ≤ ks.length ∧ ks.length ≤ 4) ∧ (∀ k ∈ ks, Kd.ok m k) ∧ (ks.map Kd.n).Nodup ∧
  ∀ H', Ex H H' → Q .non H'
theorem ok_check_kinds (B : Bl mg) (k_MOST_KINDS : ∃ t, mg "MOST_KINDS" = some (.int 4 t)) (c_is_kind : Cal P w K mg base 4 "_is_kind" ["value", "worths_wanted"] (spKind K)) (c_names : Cal P w K mg base 1 "_names" ["rows"] (spNames K)) (D0 : Df K mg "_check_kinds" s_check_kinds) :
    Cal P w K mg base 5 "_check_kinds" ["kinds", "worths_wanted"] (spCkK K) := by
  refine D0.cal sc_check_kinds (fun _ _ _ _ _ _ us hl => match us, hl with | [_, _], _ => rfl) (fun vs H Q E h => ?_) (fun f cdv A outer s H vs Q E hr h => ?_)
  · obtain ⟨a, xs, m, ks, rfl, _⟩ := h
    rfl
  · obtain ⟨a, xs, m, ks, rfl, hS, hs, hm, hl, hk, hd, q⟩ := h
    refine ⟨_, (pss_cons (ps_if (PW.pt (pw_or (pt_not (pt_val (pe_callB (r := rIsi K) call_isi (by rfl) B.isinstance_ (by decide +kernel) (pa_cons (pv 0) (pa_cons (pe_bltn (by rfl) B.tuple_ (by decide +kernel) (v := .ty "tuple") rfl) pa_nil))))) (pw_or1 (pt_cmpR op_eq (pe_callB (r := rLenQ K) call_len_seq (by rfl) B.len_ PySem.boot_len (pa_cons (pv 0) pa_nil)) pe_int (nomark _))))) (pss_one ps_never) pss_nil)
      (pss_one (ps_for PassesOwn.never rfl (pi_enumT rfl B.enumerate_ (pa_cons (pv 0) pa_nil)) (pg_tup rfl (pgs_cons (pg_name (i := 2) sc_check_kinds.nd rfl (.inl rfl)) (pgs_cons (pg_name (i := 3) sc_check_kinds.nd rfl (.inl rfl)) pgs_nil))) (pss_one (ps_if (PW.pt (pw_or (pt_cmpR op_eq (pv 2) (pe_gi rfl k_MOST_KINDS) (nomark _)) (pw_or (pt_not (pt_val (pe_cal c_is_kind hr (by decide) rfl (pa_cons (pv 3) (pa_cons (pv 1) pa_nil))))) (pw_or1 (pt_cmpR (r := rIn K false) op_in_seq (pe_ix (r := rIxT K) ix_tup (pv 3) pe_int (fun _ _ => rfl)) (pe_cal c_names hr (by decide) rfl (pa_cons (pe_slice (r := rSlA K) sl_tupA (pv 0) po_none (po_some (pv 2))) pa_nil)) (by rfl)))))) (pss_one ps_never) pss_nil))))), ?_⟩
    walk_at "rd"
    refine isi_tup (tyd_sqT hS) ?_
    walk_at "rd"
    refine ⟨a, _, rfl, .inr hS, ?_⟩
    walk_at "rd"
    have hxl := hs.lenM
    rw [decide_eq_false (show ¬ (xs.length : Int) = 0 by omega)]
    walk_at "rd"
    refine forE (fun R h => ⟨_, rfl, h⟩) hS (fun i σ' H' => ∃ y z, σ' = [some (.ref a), some (.int (m : Int)), y, z] ∧ Ex H H') ⟨_, _, rfl, .refl⟩ (fun i σ' H' p => by
      obtain ⟨_, _, _, e⟩ := p
      exact e.seqT hS) ?_ ?_
    · rintro i x T σ' H' hx ⟨y, z, rfl, e⟩ hT
      obtain ⟨k, hk1, hk2⟩ := hs.getM hx
      have hi : i < ks.length := (List.getElem?_eq_some_iff.mp hk1).1
      have hok := hk k (List.mem_of_getElem? hk1)
      walk_at "rd"
      refine ⟨_, sqT upd_same, rfl, _, _, rfl, _, _, rfl, rfl, ?_⟩
      walk_at "rd"
      rw [decide_eq_false (show ¬ (i : Int) = 4 by omega)]
      walk_at "rd"
      have e0 : Ex H (upd H' T (.tup [.int (i : Int), x])) := e.trans (.new hT)
      refine ⟨x, k.d, (m : Int), rfl, hk2.mono e0.any, Kd.short hok hm, fun H1 e1 => ?_⟩
      rw [Kd.isKind hok]
      walk_at "rd"
      have e2 : Ex H H1 := e0.trans e1
      obtain ⟨p, b, rfl, h1, h2⟩ := (hk2.mono e2.any).kd
      refine ⟨p, _, 0, _, rfl, rfl, h1, atI_nat (j := 0) rfl, ?_⟩
      refine slA_take (e2.seqT hS) fun p' H2 e3 h3 => ?_
      have e4 := e2.trans e3
      refine ⟨p', _, (ks.map Kd.n).take i, rfl, h3, by rw [List.length_take, List.length_take, List.length_map, hxl], by rw [List.length_take, List.length_map]; omega, fun j x' s' hx' hs' => ?_, fun l H3 hl3 e5 h5 => ?_⟩
      · rw [List.getElem?_take] at hx' hs'
        by_cases hj : j < i
        · rw [if_pos hj] at hx' hs'
          obtain ⟨k', hk1', hk2'⟩ := hs.getM hx'
          rw [List.getElem?_map, hk1'] at hs'
          cases hs'
          obtain ⟨p2, b2, rfl, h6, _⟩ := (hk2'.mono e4.any).kd
          exact ⟨p2, _, rfl, h6⟩
        · rw [if_neg hj] at hx'
          cases hx'
      · refine ⟨l, _, rfl, .inl (sqL h5), rfl, Z.flat_strs _, ?_⟩
        walk_at "rd"
        rw [inV_strs, decide_eq_false (not_mem_take hd (by rw [List.getElem?_map, hk1]; rfl))]
        walk_at "rd"
        exact ⟨_, _, ⟨rfl, rfl⟩, e4.trans e5⟩
    · rintro σ' H' ⟨y, z, rfl, e⟩
      exact q H' e
end
end K11

namespace K11
open PySem PySem.Spec PyProof.Rows L2 Z ZE
local macro_rules | `(tactic| walk_at "rd") => `(tactic| try simp only [cxOf, tSeq, tIfS, tRet, tRetN, tAsg, tDrop, tNext, tBreak, tCont, tNever, tPar, tPar3, tAug, gName, gTup, gCons, gNil, gSub, tVar, tC, tOp, tUn, tCB, tBM, tBM0, tCons, tNil, tTest, tB, tAnd, tOr, tNot, tAndV, tOrV, tNotV, tIf, tChain,
  tTup, tLst, tCall, tMeth, tSl, tPart, tNoPart, tM1, tFmt, tJs_nil, tJs_cons, tCKw, rI0, rI, rU, rEq, rNe, scal_ii, scal_ss, scal_bb, ipI, iStr, iTup, iList, iRng1, sFld, tFld, L2.start, List.getElem?_cons_zero, List.getElem?_cons_succ, List.set_cons_zero, List.set_cons_succ, Option.some.injEq, V.int.injEq, V.bl.injEq, V.str.injEq, V.ref.injEq,
  List.cons.injEq, exists_and_left, exists_eq_left', exists_eq_left, exists_eq_right, exists_eq_right', exists_eq', exists_eq, and_true, true_and, and_self, List.map_cons, List.map_nil, List.length_cons, List.length_nil, List.replicate_succ, List.replicate_zero, List.cons_append, List.nil_append, List.append_nil,
  Nat.add_sub_cancel, Nat.reduceAdd, Nat.reduceSub, if_true, if_false, ite_true, ite_false, Bool.not_true, Bool.not_false, Bool.true_eq_false, Bool.false_eq_true, reduceIte, reduceCtorEq, false_and, exists_false, or_false, false_or, decide_true, decide_false, wipe])

section
variable {P : Program} {w : World} {K : PySem.W.Frag} {mg : Str → Option Value} {base : Heap}
theorem strs_map (rs : List Str) : D.strs (rs.map D.str) = rs := by
  induction rs with
  | nil => rfl
  | cons r rs ih =>
    show r :: D.strs (rs.map D.str) = r :: rs
    rw [ih]
theorem Pn.isPerson {ks : List Str} {p : Pn} (h : Pn.ok ks p) (hk : ∀ s ∈ ks, nameOk s = true) : D.isPerson p.d ks = true := by
  have e : D.isPerson p.d ks = (nameOk p.n && ((decide (1 ≤ p.s) && decide (p.s ≤ 3)) && ((p.r.map D.str).all D.isName && decide (D.strs (p.r.map D.str) = ks.filter fun n => decide (n ∈ D.strs (p.r.map D.str)))))) := rfl
  have e2 : (p.r.map D.str).all D.isName = true := by
    rw [List.all_map, List.all_eq_true]
    intro s hs
    rw [h.r] at hs
    exact hk s (List.mem_filter.mp hs).1
  rw [e, h.n, decide_eq_true h.s.1, decide_eq_true h.s.2, e2, strs_map, decide_eq_true h.r]
  rfl
theorem Pn.short {ks : List Str} {p : Pn} (h : Pn.ok ks p) (hk : ∀ s ∈ ks, nameOk s = true) (hl : ks.length ≤ 1000) : D.shortP p.d := by
  refine ⟨?_, trivial, ?_, ?_⟩
  · show p.n.length ≤ 90000
    exact Nat.le_trans (nameOk_len h.n).2 (by decide)
  · rw [List.length_map, h.r]
    exact Nat.le_trans (List.length_filter_le _ _) hl
  · intro d hd
    obtain ⟨s, hs, rfl⟩ := List.mem_map.mp hd
    rw [h.r] at hs
    show s.length ≤ 90000
    exact Nat.le_trans (nameOk_len (hk s (List.mem_filter.mp hs).1)).2 (by decide)
abbrev s_check_people : Stmt := topS 43
theorem sc_check_people : FnScope ["people", "kind_names", "most", "at", "person"] ["people", "kind_names", "most"] (defScope s_check_people) := ⟨rfl, rfl, rfl, by decide +kernel, rfl, by decide +kernel, by decide +kernel⟩
def spCkP (K : PySem.W.Frag) : Sp := fun vs H Q _ => ∃ a xs l, ∃ (m : Int) (ns : List Str) (ps : List Pn), vs = [.ref a, .ref l, .int m] ∧ SqT K H a xs ∧ DTs K H xs (ps.map Pn.d) ∧ H l = some (.lst (ns.map V.str)) ∧ ns.length ≤ 1000 ∧ (∀ s ∈ ns, nameOk s = true) ∧
  (2 ≤ ps.length ∧ ps.length ≤ 3 ∧ (ps.length : Int) ≤ m) ∧ (∀ p ∈ ps, Pn.ok ns p) ∧ (ps.map Pn.n).Nodup ∧ ∀ H', Ex H H' → Q .non H'
theorem ok_check_people (B : Bl mg) (k_FEWEST_PEOPLE : ∃ t, mg "_FEWEST_PEOPLE" = some (.int 2 t)) (c_is_person : Cal P w K mg base 3 "_is_person" ["value", "kind_names"] (spPerson K)) (c_names : Cal P w K mg base 1 "_names" ["rows"] (spNames K)) (D0 : Df K mg "_check_people" s_check_people) :
    Cal P w K mg base 4 "_check_people" ["people", "kind_names", "most"] (spCkP K) := by
  refine D0.cal sc_check_people (fun _ _ _ _ _ _ us hl => match us, hl with | [_, _, _], _ => rfl) (fun vs H Q E h => ?_) (fun f cdv A outer s H vs Q E hr h => ?_)
  · obtain ⟨a, xs, l, m, ns, ps, rfl, _⟩ := h
    rfl
  · obtain ⟨a, xs, l, m, ns, ps, rfl, hS, hs, hn, hnl, hno, hl, hk, hd, q⟩ := h
    refine ⟨_, (pss_cons (ps_if (PW.pt (pw_or (pt_not (pt_val (pe_callB (r := rIsi K) call_isi (by rfl) B.isinstance_ (by decide +kernel) (pa_cons (pv 0) (pa_cons (pe_bltn (by rfl) B.tuple_ (by decide +kernel) (v := .ty "tuple") rfl) pa_nil))))) (pw_or1 (pt_cmpR op_lt (pe_callB (r := rLenQ K) call_len_seq (by rfl) B.len_ PySem.boot_len (pa_cons (pv 0) pa_nil)) (pe_gi rfl k_FEWEST_PEOPLE) (nomark _))))) (pss_one ps_never) pss_nil)
      (pss_one (ps_for PassesOwn.never rfl (pi_enumT rfl B.enumerate_ (pa_cons (pv 0) pa_nil)) (pg_tup rfl (pgs_cons (pg_name (i := 3) sc_check_people.nd rfl (.inl rfl)) (pgs_cons (pg_name (i := 4) sc_check_people.nd rfl (.inl rfl)) pgs_nil))) (pss_one (ps_if (PW.pt (pw_or (pt_cmpR op_eq (pv 3) (pv 2) (nomark _)) (pw_or (pt_not (pt_val (pe_cal c_is_person hr (by decide) rfl (pa_cons (pv 4) (pa_cons (pv 1) pa_nil))))) (pw_or1 (pt_cmpR (r := rIn K false) op_in_seq (pe_ix (r := rIxT K) ix_tup (pv 4) pe_int (fun _ _ => rfl)) (pe_cal c_names hr (by decide) rfl (pa_cons (pe_slice (r := rSlA K) sl_tupA (pv 0) po_none (po_some (pv 3))) pa_nil)) (by rfl)))))) (pss_one ps_never) pss_nil))))), ?_⟩
    walk_at "rd"
    refine isi_tup (tyd_sqT hS) ?_
    walk_at "rd"
    refine ⟨a, _, rfl, .inr hS, ?_⟩
    walk_at "rd"
    have hxl := hs.lenM
    rw [decide_eq_false (show ¬ (xs.length : Int) < 2 by omega)]
    walk_at "rd"
    refine forE (fun R h => ⟨_, rfl, h⟩) hS (fun i σ' H' => ∃ y z, σ' = [some (.ref a), some (.ref l), some (.int m), y, z] ∧ Ex H H') ⟨_, _, rfl, .refl⟩ (fun i σ' H' p => by
      obtain ⟨_, _, _, e⟩ := p
      exact e.seqT hS) ?_ ?_
    · rintro i x T σ' H' hx ⟨y, z, rfl, e⟩ hT
      obtain ⟨k, hk1, hk2⟩ := hs.getM hx
      have hi : i < ps.length := (List.getElem?_eq_some_iff.mp hk1).1
      have hok := hk k (List.mem_of_getElem? hk1)
      walk_at "rd"
      refine ⟨_, sqT upd_same, rfl, _, _, rfl, _, _, rfl, rfl, ?_⟩
      walk_at "rd"
      rw [decide_eq_false (show ¬ (i : Int) = m by omega)]
      walk_at "rd"
      have e0 : Ex H (upd H' T (.tup [.int (i : Int), x])) := e.trans (.new hT)
      refine ⟨x, k.d, l, ns, rfl, hk2.mono e0.any, Pn.short hok hno hnl, e0.get hn, hnl, fun H1 e1 => ?_⟩
      rw [Pn.isPerson hok hno]
      walk_at "rd"
      have e2 : Ex H H1 := e0.trans e1
      obtain ⟨p, b, rfl, h1, h2⟩ := (hk2.mono e2.any).pn
      refine ⟨p, _, 0, _, rfl, rfl, h1, atI_nat (j := 0) rfl, ?_⟩
      refine slA_take (e2.seqT hS) fun p' H2 e3 h3 => ?_
      have e4 := e2.trans e3
      refine ⟨p', _, (ps.map Pn.n).take i, rfl, h3, by rw [List.length_take, List.length_take, List.length_map, hxl], by rw [List.length_take, List.length_map]; omega, fun j x' s' hx' hs' => ?_, fun l2 H3 hl3 e5 h5 => ?_⟩
      · rw [List.getElem?_take] at hx' hs'
        by_cases hj : j < i
        · rw [if_pos hj] at hx' hs'
          obtain ⟨k', hk1', hk2'⟩ := hs.getM hx'
          rw [List.getElem?_map, hk1'] at hs'
          cases hs'
          obtain ⟨p2, b2, rfl, h6, _⟩ := (hk2'.mono e4.any).pn
          exact ⟨p2, _, rfl, h6⟩
        · rw [if_neg hj] at hx'
          cases hx'
      · refine ⟨l2, _, rfl, .inl (sqL h5), rfl, Z.flat_strs _, ?_⟩
        walk_at "rd"
        rw [inV_strs, decide_eq_false (not_mem_take hd (by rw [List.getElem?_map, hk1]; rfl))]
        walk_at "rd"
        exact ⟨_, _, ⟨rfl, rfl⟩, e4.trans e5⟩
    · rintro σ' H' ⟨y, z, rfl, e⟩
      exact q H' e
abbrev s_text_of : Stmt := topS 49
theorem sc_text_of : FnScope ["measures", "kinds", "people", "rows", "name", "count", "worths", "told", "share", "refused", "without", "worth"] ["measures", "kinds", "people"] (defScope s_text_of) := ⟨rfl, rfl, rfl, by decide +kernel, rfl, by decide +kernel, by decide +kernel⟩
def spText (K : PySem.W.Frag) : Sp := fun vs H Q _ => ∃ a b c kx px, ∃ o : Od, vs = [.ref a, .ref b, .ref c] ∧ SqT K H a (o.ms.map V.str) ∧ SqT K H b kx ∧ DTs K H kx (o.ks.map Kd.d) ∧ SqT K H c px ∧ DTs K H px (o.ps.map Pn.d) ∧ o.ok ∧ ∀ H', Ex H H' → Q (.str o.text) H'
theorem ok_text_of (B : Bl mg) (D0 : Df K mg "_text_of" s_text_of) : Cal P w K mg base 1 "_text_of" ["measures", "kinds", "people"] (spText K) := by
  refine D0.cal sc_text_of (fun _ _ _ _ _ _ us hl => match us, hl with | [_, _, _], _ => rfl) (fun vs H Q E h => ?_) (fun f cdv A outer s H vs Q E hr h => ?_)
  · obtain ⟨a, b, c, kx, px, o, rfl, _⟩ := h
    rfl
  · obtain ⟨a, b, c, kx, px, o, rfl, hM, hK, hKs, hP, hPs, ho, q⟩ := h
    refine ⟨_, (pss_cons (ps_set (i := 3) sc_text_of.nd rfl (.inl rfl) (pe_lst (pa_cons (pe_op op_add_str pe_str (pe_join pe_str (pv 0))) pa_nil)))
      (pss_cons (ps_for PassesOwn.never rfl (pi_tup (pv 1)) (pg_tup rfl (pgs_cons (pg_name (i := 4) sc_text_of.nd rfl (.inl rfl)) (pgs_cons (pg_name (i := 5) sc_text_of.nd rfl (.inl rfl)) (pgs_cons (pg_name (i := 6) sc_text_of.nd rfl (.inl rfl)) pgs_nil)))) (pss_cons (ps_set (i := 7) sc_text_of.nd rfl (.inl rfl) (pe_join pe_str (pe_lc (own := [("worth", 11)]) (g := gName 11) rfl sc_text_of.nd (pi_tup (pv 6)) (blkOk_by (N := ["measures", "kinds", "people", "rows", "name", "count", "worths", "told", "share", "refused", "without", "worth"]) (sc := defScope s_text_of) (by decide +kernel)) (fun _ _ _ _ _ => (pg_name (i := 11) sc_text_of.nd rfl (.inl rfl))) (fun _ _ _ _ _ => pts_nil) (fun _ _ _ _ _ => (pe_callTy call_str_int (by rfl) B.str_ (by decide +kernel) (pa_cons (pv 11) pa_nil))))))
      (pss_one (ps_expr (pe_bm PySem.F.plainAttrs_list PySem.F.slot_list_append PySem.F.type_list_append mt_append (pv 3) (pa_cons (pe_joined (.cons pe_str (.cons (pe_fmt (pv 4)) (.cons pe_str (.cons (pe_fmt (pv 5)) (.cons pe_str (.cons (pe_fmt (pv 7)) PJ.nil))))))) pa_nil))))))
      (pss_cons (ps_for PassesOwn.never rfl (pi_tup (pv 2)) (pg_tup rfl (pgs_cons (pg_name (i := 4) sc_text_of.nd rfl (.inl rfl)) (pgs_cons (pg_name (i := 8) sc_text_of.nd rfl (.inl rfl)) (pgs_cons (pg_name (i := 9) sc_text_of.nd rfl (.inl rfl)) pgs_nil)))) (pss_cons (ps_set (i := 10) sc_text_of.nd rfl (.inl rfl) (pe_join pe_str (pv 9)))
      (pss_one (ps_expr (pe_bm PySem.F.plainAttrs_list PySem.F.slot_list_append PySem.F.type_list_append mt_append (pv 3) (pa_cons (pe_ifExp (pt_truth (pv 9) (by intro _; rfl)) (pe_joined (.cons pe_str (.cons (pe_fmt (pv 4)) (.cons pe_str (.cons (pe_fmt (pv 8)) (.cons pe_str (.cons (pe_fmt (pv 10)) PJ.nil))))))) (pe_joined (.cons pe_str (.cons (pe_fmt (pv 4)) (.cons pe_str (.cons (pe_fmt (pv 8)) PJ.nil)))))) pa_nil))))))
      (pss_one (ps_ret (pe_join pe_str (pv 3))))))), ?_⟩
    walk_at "rd"
    refine ⟨o.ms, .inr hM, by have := Od.joinM ho; omega, ?_, by decide, fun l hl => ?_⟩
    · have h1 := Od.lM ho
      unfold rowM at h1
      rw [app_len] at h1
      exact Nat.le_trans h1 (by decide)
    have hkl := hKs.lenM
    have hpl := hPs.lenM
    have hk4 := ho.k1
    have hp3 := ho.p1
    refine forTp (a := b) (xs := kx) (fun R h => ⟨_, rfl, h⟩) (Gr.seqT (m := nob) (.new hl) hK) (fun i σ' H' => ∃ y4 y5 y6 y7 y8 y9 y10 y11, σ' = [some (.ref a), some (.ref b), some (.ref c), some (.ref l), y4, y5, y6, y7, y8, y9, y10, y11] ∧ Ex H H' ∧ H' l = some (.lst ((rowM o.ms :: (o.ks.take i).map rowK).map V.str)))
      ⟨_, _, _, _, _, _, _, _, rfl, .new hl, upd_same⟩ (fun i σ' H' p => by
        obtain ⟨_, _, _, _, _, _, _, _, _, e, _⟩ := p
        exact e.seqT hK) ?_ ?_
    · rintro i x σ' H' hx ⟨y4, y5, y6, y7, y8, y9, y10, y11, rfl, e, hL⟩
      obtain ⟨k, hk1, hk2⟩ := hKs.getM hx
      have hkm := List.mem_of_getElem? hk1
      have hi : i < o.ks.length := (List.getElem?_eq_some_iff.mp hk1).1
      obtain ⟨p', b', rfl, h1, h2⟩ := (hk2.mono e.any).kd
      walk_at "rd"
      refine ⟨_, h1, rfl, _, _, rfl, _, _, rfl, _, _, rfl, rfl, ?_⟩
      walk_at "rd"
      refine lcTf (a := b') (xs := k.w.map V.int) (fun R h => ⟨_, rfl, h⟩) h2 (by rw [List.length_map, (ho.k2 k hkm).l]; have := ho.m1; omega) ((k.w.map num).map V.str) (by rw [List.length_map, List.length_map, List.length_map]) ?_ ?_
      · intro j x z H2 Q' hx' hz' e2 q'
        rw [List.getElem?_map] at hx'
        rw [List.map_map, List.getElem?_map] at hz'
        cases e3 : k.w[j]? with
        | none =>
          rw [e3] at hx'
          cases hx'
        | some n =>
          rw [e3] at hx' hz'
          cases hx'
          cases hz'
          walk_at "rd"
          have hn := (ho.k2 k hkm).w n (List.mem_of_getElem? e3)
          refine ⟨?_, q' H2 .refl⟩
          have h9 : n.natAbs ≤ 6 := by omega
          exact Nat.lt_of_le_of_lt (Nat.log2_le_self _) (by omega)
      · intro D1 H2 hD e2 h3
        walk_at "rd"
        refine ⟨k.w.map num, .inl (sqL h3), by have := Od.joinW ho hkm; omega, .inl ⟨rfl, _, sqL (e2.get hL)⟩, ?_⟩
        have hlk := Od.lK ho hkm
        unfold rowK at hlk
        simp only [app_len, num] at hlk
        have hnk := (nameOk_len (ho.k2 k hkm).n).2
        have hck : k.c.natAbs.log2 < 1920 := by
          have := (ho.k2 k hkm).c
          exact Nat.lt_of_le_of_lt (Nat.log2_le_self _) (by omega)
        walk_at "rd"
        refine ⟨small (by simp only [app_len]; omega), small (by omega), small (by simp only [app_len]; omega), small (by simp only [app_len]; omega), hck, small (by simp only [app_len]; omega), small (by simp only [app_len]; omega), small (by omega), small (by simp only [app_len]; omega), ?_⟩
        refine ⟨l, _, _, rfl, rfl, e2.get hL, smallt (by simp only [List.length_map, List.length_cons, List.length_take]; omega), ?_⟩
        refine ⟨_, _, _, _, _, _, _, _, ⟨rfl, rfl, rfl, rfl, rfl, rfl, rfl, rfl⟩, (e.trans e2).put (e2.get hL) (.inl hl), ?_⟩
        rw [upd_same, List.take_add_one, hk1]
        simp only [Option.toList_some, List.map_append, List.map_cons, List.map_nil, List.cons_append, List.nil_append, List.append_assoc]
        rfl
    · rintro σ' H' ⟨y4, y5, y6, y7, y8, y9, y10, y11, rfl, e, hL⟩
      rw [hkl, List.take_length] at hL
      walk_at "rd"
      refine forTp (a := c) (xs := px) (fun R h => ⟨_, rfl, h⟩) (e.seqT hP) (fun i σ' H' => ∃ y4 y5 y6 y7 y8 y9 y10 y11, σ' = [some (.ref a), some (.ref b), some (.ref c), some (.ref l), y4, y5, y6, y7, y8, y9, y10, y11] ∧ Ex H H' ∧ H' l = some (.lst ((rowM o.ms :: (o.ks.map rowK ++ (o.ps.take i).map rowP)).map V.str)))
        ⟨_, _, _, _, _, _, _, _, rfl, e, by rw [List.take_zero, List.map_nil, List.append_nil]; exact hL⟩ (fun i σ' H' p => by
          obtain ⟨_, _, _, _, _, _, _, _, _, e, _⟩ := p
          exact e.seqT hP) ?_ ?_
      · rintro i x σ' H2 hx ⟨y4, y5, y6, y7, y8, y9, y10, y11, rfl, e, hL⟩
        obtain ⟨p, hk1, hk2⟩ := hPs.getM hx
        have hpm := List.mem_of_getElem? hk1
        have hi : i < o.ps.length := (List.getElem?_eq_some_iff.mp hk1).1
        obtain ⟨p', b', rfl, h1, h2⟩ := (hk2.mono e.any).pn
        walk_at "rd"
        refine ⟨_, h1, rfl, _, _, rfl, _, _, rfl, _, _, rfl, rfl, ?_⟩
        have hj := Od.joinR ho hpm
        have hjl := join_len (", " : Str) p.r
        walk_at "rd"
        refine ⟨p.r, .inr h2, by omega, .inl ⟨rfl, _, sqL hL⟩, _, .inr (.inl ⟨_, h2, rfl⟩), ?_⟩
        have hnk := (nameOk_len (ho.p3 p hpm).n).2
        have hck : p.s.natAbs.log2 < 1920 := by
          have := (ho.p3 p hpm).s
          exact Nat.lt_of_le_of_lt (Nat.log2_le_self _) (by omega)
        have hlk := Od.lP ho hpm
        have fin : ∀ z : Str, z = rowP p → (upd H2 l (.lst ((rowM o.ms :: (o.ks.map rowK ++ (o.ps.take i).map rowP)).map V.str ++ [V.str z]))) l = some (.lst ((rowM o.ms :: (o.ks.map rowK ++ (o.ps.take (i + 1)).map rowP)).map V.str)) := by
          rintro z rfl
          rw [upd_same, List.take_add_one, hk1]
          simp only [Option.toList_some, List.map_append, List.map_cons, List.map_nil, List.cons_append, List.nil_append, List.append_assoc]
        have hsz : ((rowM o.ms :: (o.ks.map rowK ++ (o.ps.take i).map rowP)).map V.str).length < sizeLine := smallt (by simp only [List.length_map, List.length_cons, List.length_append, List.length_take]; omega)
        by_cases hr0 : p.r = []
        · have er : rowP p = Str.empty ++ ("person " : Str) ++ p.n ++ (" " : Str) ++ num p.s := by rw [rowP, if_pos hr0]
          rw [er] at hlk
          simp only [app_len, num] at hlk
          rw [hr0]
          refine iteF ?_
          walk_at "rd"
          refine ⟨small (by simp only [app_len]; omega), small (by omega), small (by simp only [app_len]; omega), small (by simp only [app_len]; omega), hck, small (by simp only [app_len]; omega), ?_⟩
          refine ⟨l, _, _, rfl, rfl, hL, hsz, ?_⟩
          exact ⟨_, _, _, _, _, _, _, _, ⟨rfl, rfl, rfl, rfl, rfl, rfl, rfl, rfl⟩, e.put hL (.inl hl), fin _ er.symm⟩
        · have er : rowP p = Str.empty ++ ("person " : Str) ++ p.n ++ (" " : Str) ++ num p.s ++ (" without " : Str) ++ Txt.join (", " : Str) p.r := by rw [rowP, if_neg hr0]
          rw [er] at hlk
          simp only [app_len, num] at hlk
          have ene : (!(p.r.map V.str).isEmpty) = true := by
            cases hq : p.r with
            | nil => exact absurd hq hr0
            | cons z r => rfl
          rw [ene]
          refine iteT ?_
          walk_at "rd"
          refine ⟨small (by simp only [app_len]; omega), small (by omega), small (by simp only [app_len]; omega), small (by simp only [app_len]; omega), hck, small (by simp only [app_len]; omega), small (by simp only [app_len]; omega), small (by omega), small (by simp only [app_len]; omega), ?_⟩
          refine ⟨l, _, _, rfl, rfl, hL, hsz, ?_⟩
          exact ⟨_, _, _, _, _, _, _, _, ⟨rfl, rfl, rfl, rfl, rfl, rfl, rfl, rfl⟩, e.put hL (.inl hl), fin _ er.symm⟩
      · rintro σ' H2 ⟨y4, y5, y6, y7, y8, y9, y10, y11, rfl, e, hL⟩
        rw [hpl, List.take_length] at hL
        walk_at "rd"
        refine ⟨_, .inl (sqL hL), by have := Od.joinT ho; omega, ?_⟩
        exact q H2 e
end
end K11

namespace K11
open PySem PySem.Spec PyProof.Rows L2 Z ZE
local macro_rules | `(tactic| walk_at "rd") => `(tactic| try simp only [cxOf, tSeq, tIfS, tRet, tRetN, tAsg, tDrop, tNext, tBreak, tCont, tNever, tPar, tPar3, tAug, gName, gTup, gCons, gNil, gSub, tVar, tC, tOp, tUn, tCB, tBM, tBM0, tCons, tNil, tTest, tB, tAnd, tOr, tNot, tAndV, tOrV, tNotV, tIf, tChain,
  tTup, tLst, tCall, tMeth, tSl, tPart, tNoPart, tM1, tFmt, tJs_nil, tJs_cons, tCKw, rI0, rI, rU, rEq, rNe, scal_ii, scal_ss, scal_bb, ipI, iStr, iTup, iList, iRng1, sFld, tFld, L2.start, List.getElem?_cons_zero, List.getElem?_cons_succ, List.set_cons_zero, List.set_cons_succ, Option.some.injEq, V.int.injEq, V.bl.injEq, V.str.injEq, V.ref.injEq,
  List.cons.injEq, exists_and_left, exists_eq_left', exists_eq_left, exists_eq_right, exists_eq_right', exists_eq', exists_eq, and_true, true_and, and_self, List.map_cons, List.map_nil, List.length_cons, List.length_nil, List.replicate_succ, List.replicate_zero, List.cons_append, List.nil_append, List.append_nil,
  Nat.add_sub_cancel, Nat.reduceAdd, Nat.reduceSub, if_true, if_false, ite_true, ite_false, Bool.not_true, Bool.not_false, Bool.true_eq_false, Bool.false_eq_true, reduceIte, reduceCtorEq, false_and, exists_false, or_false, false_or, decide_true, decide_false, wipe])

def fldsO (m k p : V) (t : Str) : List (Str × V) := putF "_text" (.str t) (putF "_people" p (putF "_kinds" k (putF "_measures" m [])))
theorem fldsO_eq (m k p : V) (t : Str) : fldsO m k p t = ([("_measures", m), ("_kinds", k), ("_people", p), ("_text", .str t)] : List (Str × V)) := by
  have h1 : ¬ (("_measures" : Str) = "_kinds") := by decide +kernel
  have h2 : ¬ (("_measures" : Str) = "_people") := by decide +kernel
  have h3 : ¬ (("_kinds" : Str) = "_people") := by decide +kernel
  have h4 : ¬ (("_measures" : Str) = "_text") := by decide +kernel
  have h5 : ¬ (("_kinds" : Str) = "_text") := by decide +kernel
  have h6 : ¬ (("_people" : Str) = "_text") := by decide +kernel
  unfold fldsO
  simp only [putF, if_neg h1, if_neg h2, if_neg h3, if_neg h4, if_neg h5, if_neg h6]
theorem fl_m (m k p : V) (t : Str) : (fldsO m k p t).lookup ("_measures" : Str) = some m := by
  unfold fldsO
  rw [lookup_putF, if_neg (by decide +kernel), lookup_putF, if_neg (by decide +kernel), lookup_putF, if_neg (by decide +kernel), lookup_putF, if_pos rfl]
theorem fl_k (m k p : V) (t : Str) : (fldsO m k p t).lookup ("_kinds" : Str) = some k := by
  unfold fldsO
  rw [lookup_putF, if_neg (by decide +kernel), lookup_putF, if_neg (by decide +kernel), lookup_putF, if_pos rfl]
theorem fl_p (m k p : V) (t : Str) : (fldsO m k p t).lookup ("_people" : Str) = some p := by
  unfold fldsO
  rw [lookup_putF, if_neg (by decide +kernel), lookup_putF, if_pos rfl]
theorem fl_t (m k p : V) (t : Str) : (fldsO m k p t).lookup ("_text" : Str) = some (.str t) := by
  unfold fldsO
  rw [lookup_putF, if_pos rfl]
theorem fl_noO (m k p : V) (t : Str) {x : Str} (h1 : ¬ x = "_text") (h2 : ¬ x = "_people") (h3 : ¬ x = "_kinds") (h4 : ¬ x = "_measures") : (fldsO m k p t).lookup x = none := by
  unfold fldsO
  rw [lookup_putF, if_neg h1, lookup_putF, if_neg h2, lookup_putF, if_neg h3, lookup_putF, if_neg h4]
  rfl
theorem putF_lenO (f : Str) (v : V) : ∀ l : List (Str × V), (putF f v l).length ≤ l.length + 1
  | [] => Nat.le_refl _
  | (g, u) :: l => by
    have ih := putF_lenO f v l
    simp only [putF]
    split
    · simp
    · simp only [List.length_cons]
      omega
/-- an order's parts -/
structure PartsAt (K : PySem.W.Frag) (H : Hp) (a b c : Addr) (o : Od) : Prop where
  m : SqT K H a (o.ms.map V.str)
  k : ∃ kx, SqT K H b kx ∧ DTs K H kx (o.ks.map Kd.d)
  p : ∃ px, SqT K H c px ∧ DTs K H px (o.ps.map Pn.d)
  ok : o.ok
theorem PartsAt.mono {K : PySem.W.Frag} {H H' : Hp} {a b c : Addr} {o : Od} (h : PartsAt K H a b c o) (e : Gr any H H') : PartsAt K H' a b c o := by
  obtain ⟨kx, k1, k2⟩ := h.k
  obtain ⟨px, p1, p2⟩ := h.p
  exact ⟨e.seqT h.m, ⟨kx, e.seqT k1, k2.mono e⟩, ⟨px, e.seqT p1, p2.mono e⟩, h.ok⟩
/-- an order stands at x -/
def OrdAt (K : PySem.W.Frag) (C : Addr) (H : Hp) (x : Addr) (o : Od) : Prop := ∃ dx a b c, H x = some (.ins C dx (fldsO (.ref a) (.ref b) (.ref c) o.text)) ∧ PartsAt K H a b c o
section
variable {P : Program} {w : World} {K : PySem.W.Frag} {mg : Str → Option Value} {base : Heap} {C : Addr}
/-- what the class Order says of itself -/
structure OrdC (K : PySem.W.Frag) (C : Addr) : Prop where
  cl : Cls K C
  nm : NoAttr K C "_measures"
  nk : NoAttr K C "_kinds"
  np : NoAttr K C "_people"
  nt : NoAttr K C "_text"
abbrev s_Order__init : Stmt := inClass (topS 36) 0
theorem sc_Order__init : FnScope ["self", "measures", "kinds", "people"] ["self", "measures", "kinds", "people"] (defScope s_Order__init) := ⟨rfl, rfl, rfl, by decide +kernel, rfl, by decide +kernel, by decide +kernel⟩
def spInitO (K : PySem.W.Frag) (C : Addr) : Sp := fun vs H Q _ => ∃ x dx a b c, ∃ o : Od, vs = [.ref x, .ref a, .ref b, .ref c] ∧ H x = some (.ins C dx []) ∧ PartsAt K H a b c o ∧
  ∀ H', Gr (· = x) H H' → H' x = some (.ins C dx (fldsO (.ref a) (.ref b) (.ref c) o.text)) → Q .non H'
theorem ok_init (B : Bl mg) (c_check_measures : Cal P w K mg base 3 "_check_measures" ["measures"] (spCkM K)) (c_check_kinds : Cal P w K mg base 5 "_check_kinds" ["kinds", "worths_wanted"] (spCkK K))
    (c_check_people : Cal P w K mg base 4 "_check_people" ["people", "kind_names", "most"] (spCkP K)) (c_names : Cal P w K mg base 1 "_names" ["rows"] (spNames K)) (c_most_people : Cal P w K mg base 1 "_most_people" ["measures_told"] spMost)
    (c_text_of : Cal P w K mg base 1 "_text_of" ["measures", "kinds", "people"] (spText K)) (T : OrdC K C) (D0 : Di K mg "Order" "Order.__init__" C s_Order__init) : Mkr P w K mg base 6 "Order" C ["self", "measures", "kinds", "people"] (spInitO K C) := by
  refine D0.mkr sc_Order__init (fun _ _ _ _ _ _ us hl => match us, hl with | [_, _, _, _], _ => rfl) (fun vs H Q E h => ?_) (fun f cdv A outer s H vs Q E hr h => ?_)
  · obtain ⟨x, dx, a, b, c, o, rfl, _⟩ := h
    rfl
  · obtain ⟨x, dx, a, b, c, o, rfl, hx, hp, q⟩ := h
    refine ⟨_, (pss_cons (ps_expr (pe_cal c_check_measures hr (by decide) rfl (pa_cons (pv 1) pa_nil)))
      (pss_cons (ps_expr (pe_cal c_check_kinds hr (by decide) rfl (pa_cons (pv 2) (pa_cons (pe_callB (r := rLenQ K) call_len_seq (by rfl) B.len_ PySem.boot_len (pa_cons (pv 1) pa_nil)) pa_nil))))
      (pss_cons (ps_expr (pe_cal c_check_people hr (by decide) rfl (pa_cons (pv 3) (pa_cons (pe_cal c_names hr (by decide) rfl (pa_cons (pv 2) pa_nil)) (pa_cons (pe_cal c_most_people hr (by decide) rfl (pa_cons (pe_callB (r := rLenQ K) call_len_seq (by rfl) B.len_ PySem.boot_len (pa_cons (pv 1) pa_nil)) pa_nil)) pa_nil)))))
      (pss_cons (ps_fld (pv 0) (pv 1) rfl)
      (pss_cons (ps_fld (pv 0) (pv 2) rfl)
      (pss_cons (ps_fld (pv 0) (pv 3) rfl)
      (pss_one (ps_fld (pv 0) (pe_cal c_text_of hr (by decide) rfl (pa_cons (pv 1) (pa_cons (pv 2) (pa_cons (pv 3) pa_nil)))) rfl)))))))), ?_⟩
    have ho := hp.ok
    have hm1 := ho.m1
    have hp1 := ho.p1
    have hp2 := ho.p2
    have hk1 := ho.k1
    walk_at "rd"
    refine ⟨a, o.ms, rfl, hp.m, ho.m1, ho.m2, ho.m3, fun H1 e1 => ?_⟩
    have P1 := hp.mono e1.any
    walk_at "rd"
    refine ⟨a, _, rfl, .inr P1.m, ?_⟩
    walk_at "rd"
    obtain ⟨kx, k1, k2⟩ := P1.k
    refine ⟨b, kx, o.ms.length, o.ks, by rw [List.length_map], k1, k2, by omega, ho.k1, ho.k2, ho.k3, fun H2 e2 => ?_⟩
    have P2 := P1.mono e2.any
    obtain ⟨kx2, k3, k4⟩ := P2.k
    walk_at "rd"
    have hkl := k4.lenM
    refine ⟨b, kx2, o.ks.map Kd.n, rfl, k3, by rw [List.length_map, hkl], by rw [List.length_map]; omega, fun i x s hx hs => ?_, fun l H3 hl e3 h3 => ?_⟩
    · obtain ⟨k, h1, h2⟩ := k4.getM hx
      rw [List.getElem?_map, h1] at hs
      cases hs
      obtain ⟨p', b', rfl, h3, _⟩ := h2.kd
      exact ⟨p', _, rfl, h3⟩
    · have P3 := P2.mono e3.any
      refine ⟨a, _, rfl, .inr P3.m, ?_⟩
      walk_at "rd"
      refine ⟨_, rfl, ?_⟩
      obtain ⟨px, p3, p4⟩ := P3.p
      refine ⟨c, px, l, _, o.ks.map Kd.n, o.ps, rfl, p3, p4, h3, by rw [List.length_map]; omega, fun s hs => ?_, ⟨by omega, by omega, ?_⟩, ho.p3, ho.p4, fun H4 e4 => ?_⟩
      · obtain ⟨k, hk, rfl⟩ := List.mem_map.mp hs
        exact (ho.k2 k hk).n
      · rw [List.length_map]
        split
        · omega
        · omega
      · have P4 := P3.mono e4.any
        have e14 := ((e1.trans e2).trans e3).trans e4
        have hx4 := e14.get hx
        walk_at "rd"
        refine ⟨C, dx, [], hx4, T.cl, T.nm, by decide, ?_⟩
        refine ⟨C, dx, _, upd_same, T.cl, T.nk, Nat.lt_of_le_of_lt (putF_lenO _ _ _) (by decide), ?_⟩
        refine ⟨C, dx, _, upd_same, T.cl, T.np, Nat.lt_of_le_of_lt (Nat.le_trans (putF_lenO _ _ _) (Nat.succ_le_succ (putF_lenO _ _ _))) (by decide), ?_⟩
        rw [upd_upd, upd_upd]
        have eu : ∀ fs, Gr (· = x) H4 (upd H4 x (.ins C dx fs)) := fun fs => Gr.refl.puti hx4 (.inr rfl)
        have P5 := P4.mono (eu (putF "_people" (.ref c) (putF "_kinds" (.ref b) (putF "_measures" (.ref a) [])))).any
        obtain ⟨kx5, k5, k6⟩ := P5.k
        obtain ⟨px5, p5, p6⟩ := P5.p
        refine ⟨a, b, c, kx5, px5, o, rfl, P5.m, k5, k6, p5, p6, ho, fun H5 e5 => ?_⟩
        refine ⟨C, dx, _, e5.get upd_same, T.cl, T.nt, Nat.lt_of_le_of_lt (Nat.le_trans (putF_lenO _ _ _) (Nat.succ_le_succ (Nat.le_trans (putF_lenO _ _ _) (Nat.succ_le_succ (putF_lenO _ _ _))))) (by decide), ?_⟩
        refine q _ ?_ upd_same
        exact (e14.of.trans ((eu _).trans e5.of)).puti (e5.get upd_same) (.inr rfl)
end
end K11

namespace K11
open PySem PySem.Spec PyProof.Rows L2 Z ZE
local macro_rules | `(tactic| walk_at "rd") => `(tactic| try simp only [cxOf, tSeq, tIfS, tRet, tRetN, tAsg, tDrop, tNext, tBreak, tCont, tNever, tPar, tPar3, tAug, gName, gTup, gCons, gNil, gSub, tVar, tC, tOp, tUn, tCB, tBM, tBM0, tCons, tNil, tTest, tB, tAnd, tOr, tNot, tAndV, tOrV, tNotV, tIf, tChain,
  tTup, tLst, tCall, tMeth, tSl, tPart, tNoPart, tM1, tFmt, tJs_nil, tJs_cons, tCKw, rI0, rI, rU, rEq, rNe, scal_ii, scal_ss, scal_bb, ipI, iStr, iTup, iList, iRng1, sFld, tFld, L2.start, List.getElem?_cons_zero, List.getElem?_cons_succ, List.set_cons_zero, List.set_cons_succ, Option.some.injEq, V.int.injEq, V.bl.injEq, V.str.injEq, V.ref.injEq,
  List.cons.injEq, exists_and_left, exists_eq_left', exists_eq_left, exists_eq_right, exists_eq_right', exists_eq', exists_eq, and_true, true_and, and_self, List.map_cons, List.map_nil, List.length_cons, List.length_nil, List.replicate_succ, List.replicate_zero, List.cons_append, List.nil_append, List.append_nil,
  Nat.add_sub_cancel, Nat.reduceAdd, Nat.reduceSub, if_true, if_false, ite_true, ite_false, Bool.not_true, Bool.not_false, Bool.true_eq_false, Bool.false_eq_true, reduceIte, reduceCtorEq, false_and, exists_false, or_false, false_or, decide_true, decide_false, wipe])

section
variable {P : Program} {w : World} {K : PySem.W.Frag} {mg : Str → Option Value} {base : Heap}
abbrev s_law_cell : Stmt := topS 108
theorem sc_law_cell : FnScope ["_law_cells", "_law_spot", "_law_mixed", "_law_number"] ["_law_cells", "_law_spot"] (defScope s_law_cell) := ⟨rfl, rfl, rfl, by decide +kernel, rfl, by decide +kernel, by decide +kernel⟩
def spCell (K : PySem.W.Frag) : Sp := fun vs H Q _ => ∃ a, ∃ (k : Int) (ns : List Int), vs = [.ref a, .int k] ∧ SqL K H a (ns.map V.int) ∧ ns.length ≤ 63 ∧ (0 ≤ k ∧ k < 1000) ∧ ∀ r H', Ex H H' → Q (.int r) H'
theorem ok_law_cell (B : Bl mg) (D0 : Df K mg "_law_cell" s_law_cell) : Cal P w K mg base 1 "_law_cell" ["_law_cells", "_law_spot"] (spCell K) := by
  refine D0.cal sc_law_cell (fun _ _ _ _ _ _ us hl => match us, hl with | [_, _], _ => rfl) (fun vs H Q E h => ?_) (fun f cdv A outer s H vs Q E hr h => ?_)
  · obtain ⟨a, k, ns, rfl, _⟩ := h
    rfl
  · obtain ⟨a, k, ns, rfl, hS, hl, hk, q⟩ := h
    refine ⟨_, (pss_cons (ps_if (pt_cmpR op_lt (pv 1) (pe_callB (r := rLenQ K) call_len_seq (by rfl) B.len_ PySem.boot_len (pa_cons (pv 0) pa_nil)) (nomark _)) (pss_one (ps_ret (pe_callTy call_int1 (by rfl) B.int_ (by decide +kernel) (pa_cons (pe_ix (r := rIxL K) ix_list (pv 0) (pv 1) (fun _ _ => rfl)) pa_nil)))) pss_nil)
      (pss_cons (ps_set (i := 2) sc_law_cell.nd rfl (.inl rfl) (pe_op op_add (pe_op op_mul pe_int (pv 1)) pe_int))
      (pss_cons (ps_for PassesOwn.never rfl (pi_list (pe_slice (r := rSlL K) sl_list (pv 0) po_none (po_some pe_int))) (pg_name (i := 3) sc_law_cell.nd rfl (.inl rfl)) (pss_one (ps_set (i := 2) sc_law_cell.nd rfl (.inl rfl) (pe_op op_mod (pe_callTy call_int1 (by rfl) B.int_ (by decide +kernel) (pa_cons (pe_op op_add (pe_op op_add (pe_op op_mul (pv 2) pe_int) (pv 3)) pe_int) pa_nil)) pe_int))))
      (pss_one (ps_ret (pv 2)))))), ?_⟩
    walk_at "rd"
    refine ⟨a, _, rfl, .inl hS, ?_⟩
    walk_at "rd"
    rw [List.length_map]
    by_cases hlt : k < (ns.length : Int)
    · rw [decide_eq_true hlt]
      refine iteT ?_
      obtain ⟨v, hv, ev⟩ := atJ (xs := ns.map V.int) (r := k) hk.1 (by rw [List.length_map]; exact hlt)
      obtain ⟨i, _, rfl⟩ := List.mem_map.mp hv
      exact ⟨a, _, k, _, rfl, rfl, hS, ev, .inl ⟨i, rfl, q i H .refl⟩⟩
    · rw [decide_eq_false hlt]
      refine iteF ⟨.inr ⟨by omega, by omega⟩, ?_⟩
      refine forLj (fun p xs H1 => Ex H H1 ∧ H1 p = some (.lst xs) ∧ ∀ x ∈ xs, ∃ n : Int, x = .int n) (fun R h => ⟨_, rfl, 4, rfl, a, _, rfl, hS, fun p hp => h p _ _ ⟨.new hp, upd_same, fun x hx => ?_⟩⟩) (fun p xs H1 c => sqL c.2.1)
        (fun p xs i σ' H' => ∃ (sd : Int) (y : Option V), σ' = [some (.ref a), some (.int k), some (.int sd), y] ∧ Ex H H' ∧ H' p = some (.lst xs) ∧ ∀ x ∈ xs, ∃ n : Int, x = .int n) (fun p xs H1 c => ⟨_, _, rfl, c⟩) (fun p xs i σ' H' c => by
          obtain ⟨_, _, _, _, c, _⟩ := c
          exact sqL c) ?_ ?_
      · rw [show cutV (ns.map V.int) none (some 4) = (ns.map V.int).take 4 from cut_take 4] at hx
        obtain ⟨n, _, rfl⟩ := List.mem_map.mp (List.mem_of_mem_take hx)
        exact ⟨n, rfl⟩
      · rintro p xs i x σ' H' hx ⟨sd, y, rfl, e, h1, h2⟩
        obtain ⟨n, rfl⟩ := h2 x (List.mem_of_getElem? hx)
        walk_at "rd"
        refine ⟨.inr ⟨by omega, by omega⟩, by omega, ?_⟩
        exact ⟨_, _, ⟨rfl, rfl⟩, e, h1, h2⟩
      · rintro p xs σ' H' ⟨sd, y, rfl, e, h1, h2⟩
        walk_at "rd"
        exact q sd H' e
abbrev s_law_jar : Stmt := topS 109
theorem sc_law_jar : FnScope ["_law_cells", "_law_spot", "_law_cell_here"] ["_law_cells", "_law_spot"] (defScope s_law_jar) := ⟨rfl, rfl, rfl, by decide +kernel, rfl, by decide +kernel, by decide +kernel⟩
def spJar (K : PySem.W.Frag) : Sp := fun vs H Q _ => ∃ a, ∃ (k : Int) (ns : List Int), vs = [.ref a, .int k] ∧ SqL K H a (ns.map V.int) ∧ ns.length ≤ 63 ∧ (0 ≤ k ∧ k < 1000) ∧ ∀ p H', Ex H H' → H p = none → Pool H' p → Q (.ref p) H'
theorem ok_law_jar (B : Bl mg) (c_law_cell : Cal P w K mg base 1 "_law_cell" ["_law_cells", "_law_spot"] (spCell K)) (D0 : Df K mg "_law_jar" s_law_jar) : Cal P w K mg base 2 "_law_jar" ["_law_cells", "_law_spot"] (spJar K) := by
  refine D0.cal sc_law_jar (fun _ _ _ _ _ _ us hl => match us, hl with | [_, _], _ => rfl) (fun vs H Q E h => ?_) (fun f cdv A outer s H vs Q E hr h => ?_)
  · obtain ⟨a, k, ns, rfl, _⟩ := h
    rfl
  · obtain ⟨a, k, ns, rfl, hS, hl, hk, q⟩ := h
    refine ⟨_, (pss_cons (ps_set (i := 2) sc_law_jar.nd rfl (.inl rfl) (pe_callB call_abs (by rfl) B.abs_ (by decide +kernel) (pa_cons (pe_cal c_law_cell hr (by decide) rfl (pa_cons (pv 0) (pa_cons (pv 1) pa_nil))) pa_nil)))
      (pss_one (ps_ret (pe_lst (pa_cons (pv 2) (pa_cons (pe_op op_mod (pe_callTy call_int1 (by rfl) B.int_ (by decide +kernel) (pa_cons (pe_op op_add (pv 2) (pe_op op_mul pe_int (pv 1))) pa_nil)) pe_int) (pa_cons pe_int pa_nil))))))), ?_⟩
    walk_at "rd"
    refine ⟨a, k, ns, rfl, hS, hl, hk, fun r H1 e1 => ?_⟩
    exact ⟨r, rfl, .inr ⟨by omega, by omega⟩, by decide, by decide, fun p hp => q p _ (e1.trans (.new hp)) (e1.free hp) ⟨_, _, _, upd_same⟩⟩
abbrev s_law_dig : Stmt := topS 110
theorem sc_law_dig : FnScope ["_law_jar_here", "_law_many", "_law_mixed", "_law_digit"] ["_law_jar_here", "_law_many"] (defScope s_law_dig) := ⟨rfl, rfl, rfl, by decide +kernel, rfl, by decide +kernel, by decide +kernel⟩
def spDig : Sp := fun vs H Q _ => ∃ a, ∃ m : Int, vs = [.ref a, .int m] ∧ Pool H a ∧ 0 < m ∧ m ≤ 1000000000000000000000000000000 ∧ ∀ r H', (0 ≤ r ∧ r < m) → Gr (· = a) H H' → Pool H' a → Q (.int r) H'
theorem ok_law_dig (B : Bl mg) (D0 : Df K mg "_law_dig" s_law_dig) : Cal P w K mg base 1 "_law_dig" ["_law_jar_here", "_law_many"] spDig := by
  refine D0.cal sc_law_dig (fun _ _ _ _ _ _ us hl => match us, hl with | [_, _], _ => rfl) (fun vs H Q E h => ?_) (fun f cdv A outer s H vs Q E hr h => ?_)
  · obtain ⟨a, m, rfl, _⟩ := h
    rfl
  · obtain ⟨a, m, rfl, ⟨d, x, c, hp⟩, h1, h2, q⟩ := h
    refine ⟨_, (pss_cons (ps_asg (pe_op op_add (pe_ix (r := rIxL K) ix_list (pv 0) pe_int (fun _ _ => rfl)) pe_int) (pg_sub (pv 0) pe_int set_list))
      (pss_cons (ps_set (i := 2) sc_law_dig.nd rfl (.inl rfl) (pe_callTy call_int1 (by rfl) B.int_ (by decide +kernel) (pa_cons (pe_ix (r := rIxL K) ix_list (pv 0) pe_int (fun _ _ => rfl)) pa_nil)))
      (pss_cons (ps_asg (pe_op op_mod (pe_callTy call_int1 (by rfl) B.int_ (by decide +kernel) (pa_cons (pe_op op_add (pe_op op_add (pe_op op_mul (pv 2) (pe_op op_add (pe_op op_mod (pe_callTy call_int1 (by rfl) B.int_ (by decide +kernel) (pa_cons (pv 2) pa_nil)) pe_int) pe_int)) (pe_op op_mul (pe_ix (r := rIxL K) ix_list (pv 0) pe_int (fun _ _ => rfl)) pe_int)) pe_int) pa_nil)) pe_int) (pg_sub (pv 0) pe_int set_list))
      (pss_cons (ps_if (pt_cmpR op_gt (pe_ix (r := rIxL K) ix_list (pv 0) pe_int (fun _ _ => rfl)) pe_int (nomark _)) (pss_cons (ps_asg (pe_callB call_divmodW (by rfl) B.divmod_ (by decide +kernel) (pa_cons (pe_ix (r := rIxL K) ix_list (pv 0) pe_int (fun _ _ => rfl)) (pa_cons (pv 1) pa_nil))) (pg_tup rfl (pgs_cons (pg_sub (pv 0) pe_int set_list) (pgs_cons (pg_name (i := 3) sc_law_dig.nd rfl (.inl rfl)) pgs_nil))))
      (pss_one (ps_ret (pv 3)))) pss_nil)
      (pss_one (ps_ret (pe_op op_mod (pe_callTy call_int1 (by rfl) B.int_ (by decide +kernel) (pa_cons (pe_op op_fdiv (pe_ix (r := rIxL K) ix_list (pv 0) pe_int (fun _ _ => rfl)) pe_int) pa_nil)) (pv 1)))))))), ?_⟩
    walk_at "rd"
    refine ⟨a, _, 2, _, rfl, rfl, sqL hp, atI_nat (j := 2) rfl, c, rfl, ?_⟩
    refine ⟨a, _, 2, 2, rfl, rfl, hp, rfl, ?_⟩
    refine ⟨a, _, 1, _, rfl, rfl, sqL upd_same, atI_nat (j := 1) rfl, .inl ⟨x, rfl, ?_⟩⟩
    walk_at "rd"
    have hm1 := Int.emod_nonneg x (show (29989 : Int) ≠ 0 by decide)
    have hm2 := Int.emod_lt_of_pos x (show (0 : Int) < 29989 by decide)
    refine ⟨by decide, .inr ⟨by omega, by omega⟩, a, _, 2, _, rfl, rfl, sqL upd_same, atI_nat (j := 2) rfl, c + 1, rfl, .inr ⟨by omega, by omega⟩, by decide, ?_⟩
    generalize hz : (x * (x % 29989 + 40013) + (c + 1) * 65521 + 7) % 2147483587 = z
    refine ⟨a, _, 1, 1, rfl, rfl, upd_same, rfl, ?_⟩
    refine ⟨a, _, 0, _, rfl, rfl, sqL upd_same, atI_nat (j := 0) rfl, d, rfl, ?_⟩
    rw [upd_upd]
    have G1 : Gr (· = a) H (upd H a (.lst [.int d, .int z, .int (c + 1)])) := Gr.refl.put hp (.inr rfl)
    by_cases hd : 0 < d
    · rw [decide_eq_true hd]
      refine iteT ?_
      refine ⟨a, _, 0, _, rfl, rfl, sqL upd_same, atI_nat (j := 0) rfl, d, m, ⟨rfl, rfl⟩, ⟨h1, noPyJ h1 h2⟩, fun p hf => ?_⟩
      refine ⟨_, sqT upd_same, rfl, _, _, rfl, ?_⟩
      have hpa : a ≠ p := fun e => by
        subst e
        rw [upd_same] at hf
        cases hf
      refine ⟨a, _, 0, 0, rfl, rfl, (by rw [upd_ne hpa]; exact upd_same), rfl, _, _, rfl, rfl, ?_⟩
      refine q _ _ ⟨Int.emod_nonneg _ (by omega), Int.emod_lt_of_pos _ h1⟩ ((G1.alloc hf).put (by rw [upd_ne hpa]; exact upd_same) (.inr rfl)) ⟨_, _, _, upd_same⟩
    · rw [decide_eq_false hd]
      refine iteF ⟨a, _, 1, _, rfl, rfl, sqL upd_same, atI_nat (j := 1) rfl, z, rfl, ⟨by omega, by omega⟩, h1, ?_⟩
      exact q _ _ ⟨Int.emod_nonneg _ (by omega), Int.emod_lt_of_pos _ h1⟩ G1 ⟨_, _, _, upd_same⟩
abbrev s_law_take : Stmt := topS 111
theorem sc_law_take : FnScope ["_law_jar_here", "_law_some"] ["_law_jar_here", "_law_some"] (defScope s_law_take) := ⟨rfl, rfl, rfl, by decide +kernel, rfl, by decide +kernel, by decide +kernel⟩
def spTake (K : PySem.W.Frag) : Sp := fun vs H Q _ => ∃ a l, ∃ xs : List V, vs = [.ref a, .ref l] ∧ Pool H a ∧ SqL K H l xs ∧ l ≠ a ∧ (0 < xs.length ∧ xs.length ≤ 1000) ∧ ∀ v H', v ∈ xs → Gr (· = a) H H' → Pool H' a → Q v H'
theorem ok_law_take (B : Bl mg) (c_law_dig : Cal P w K mg base 1 "_law_dig" ["_law_jar_here", "_law_many"] spDig) (D0 : Df K mg "_law_take" s_law_take) : Cal P w K mg base 2 "_law_take" ["_law_jar_here", "_law_some"] (spTake K) := by
  refine D0.cal sc_law_take (fun _ _ _ _ _ _ us hl => match us, hl with | [_, _], _ => rfl) (fun vs H Q E h => ?_) (fun f cdv A outer s H vs Q E hr h => ?_)
  · obtain ⟨a, l, xs, rfl, _⟩ := h
    rfl
  · obtain ⟨a, l, xs, rfl, hp, hS, hla, hl, q⟩ := h
    refine ⟨_, (pss_one (ps_ret (pe_ix (r := rIxL K) ix_list (pv 1) (pe_cal c_law_dig hr (by decide) rfl (pa_cons (pv 0) (pa_cons (pe_callB (r := rLenQ K) call_len_seq (by rfl) B.len_ PySem.boot_len (pa_cons (pv 1) pa_nil)) pa_nil))) (fun _ _ => rfl)))), ?_⟩
    walk_at "rd"
    refine ⟨l, xs, rfl, .inl hS, a, (xs.length : Int), rfl, hp, by omega, by omega, fun r H1 hr1 g1 p1 => ?_⟩
    obtain ⟨v, hv, ev⟩ := atJ (xs := xs) hr1.1 hr1.2
    exact ⟨l, xs, r, v, rfl, rfl, g1.seqL hS hla, ev, q v H1 hv g1 p1⟩
end
end K11

namespace K11
open PySem PySem.Spec PyProof.Rows L2 Z ZE
local macro_rules | `(tactic| walk_at "rd") => `(tactic| try simp only [cxOf, tSeq, tIfS, tRet, tRetN, tAsg, tDrop, tNext, tBreak, tCont, tNever, tPar, tPar3, tAug, gName, gTup, gCons, gNil, gSub, tVar, tC, tOp, tUn, tCB, tBM, tBM0, tCons, tNil, tTest, tB, tAnd, tOr, tNot, tAndV, tOrV, tNotV, tIf, tChain,
  tTup, tLst, tCall, tMeth, tSl, tPart, tNoPart, tM1, tFmt, tJs_nil, tJs_cons, tCKw, rI0, rI, rU, rEq, rNe, scal_ii, scal_ss, scal_bb, ipI, iStr, iTup, iList, iRng1, sFld, tFld, L2.start, List.getElem?_cons_zero, List.getElem?_cons_succ, List.set_cons_zero, List.set_cons_succ, Option.some.injEq, V.int.injEq, V.bl.injEq, V.str.injEq, V.ref.injEq,
  List.cons.injEq, exists_and_left, exists_eq_left', exists_eq_left, exists_eq_right, exists_eq_right', exists_eq', exists_eq, and_true, true_and, and_self, List.map_cons, List.map_nil, List.length_cons, List.length_nil, List.replicate_succ, List.replicate_zero, List.cons_append, List.nil_append, List.append_nil,
  Nat.add_sub_cancel, Nat.reduceAdd, Nat.reduceSub, if_true, if_false, ite_true, ite_false, Bool.not_true, Bool.not_false, Bool.true_eq_false, Bool.false_eq_true, reduceIte, reduceCtorEq, false_and, exists_false, or_false, false_or, decide_true, decide_false, wipe])

section
variable {P : Program} {w : World} {K : PySem.W.Frag} {mg : Str → Option Value} {base : Heap} {C : Addr}
theorem tyd_dctJ {H : Hp} {a : Addr} {kvs : List (Key × V)} (h : H a = some (.dK kvs)) : Tyd K H (.ref a) .oth := ⟨_, .base (.dK h), tyok_dct⟩
/-- a plain value that stays what it is -/
inductive Pla (K : PySem.W.Frag) (H : Hp) : V → Prop
  | data {v : V} {d : PyData} : Dp K H v d → tagL d = true → Pla K H v
  | dict {a : Addr} {kvs : List (Key × V)} : H a = some (.dK kvs) → Pla K H (.ref a)
theorem Pla.dt {H : Hp} {v : V} (h : Pla K H v) : ∃ d, DT K H v d := by
  cases h with
  | data h _ => exact dt_of_dp _ _ h
  | dict h => exact ⟨_, .oth (tyd_dctJ h)⟩
theorem Pla.up {H H' : Hp} {a : Addr} {v : V} (h : Pla K H v) (hp : Pool H a) (e : Gr (· = a) H H') : Pla K H' v := by
  cases h with
  | data h h1 => exact .data (dp_mono e (fun b hb => by
      obtain ⟨x, d, c, q⟩ := hp
      exact .inr ⟨x, d, c, by rw [hb]; exact q⟩) _ _ h1 h) h1
  | dict h => exact .dict (e.still h rfl)
theorem Pla.ex {H H' : Hp} {v : V} (h : Pla K H v) (e : Ex H H') : Pla K H' v := by
  cases h with
  | data h h1 => exact .data (dp_mono e (fun b hb => hb.elim) _ _ h1 h) h1
  | dict h => exact .dict (e.get h)
theorem dp_gxJ {H H' : Hp} (e : Gx nob H H') {v : V} {d : PyData} (h : Dp K H v d) : Dp K H' v d :=
  Dp.rec (motive_1 := fun v d _ => Dp K H' v d) (motive_2 := fun vs ds _ => DpAll K H' vs ds) .non (fun b => .bl b) (fun i => .int i) (fun x => .str x) (fun hs _ ih => .lst (e.seqL hs id) ih) (fun hs _ ih => .tup (e.seqT hs) ih) .nil (fun _ _ ih1 ih2 => .cons ih1 ih2) h
theorem Pla.gx {H H' : Hp} {v : V} (h : Pla K H v) (e : Gx nob H H') : Pla K H' v := by
  cases h with
  | data h h1 => exact .data (dp_gxJ e h) h1
  | dict h => exact .dict (e.at h id fun _ z => by cases z)
/-- the type of a plain value -/
theorem Pla.ty {H : Hp} {v : V} (h : Pla K H v) : ∃ t, t ∈ ["NoneType", "int", "bool", "str", "tuple", "list", "dict"] ∧ TyX K H v (.type t) := by
  cases h with
  | data h1 _ =>
    cases h1 with
    | non => exact ⟨"NoneType", by simp, .base .non⟩
    | bl b => exact ⟨"bool", by simp, .base (.bl _)⟩
    | int i => exact ⟨"int", by simp, .base (.int _)⟩
    | str x => exact ⟨"str", by simp, .base (.str _)⟩
    | lst hs _ =>
      rcases hs with (h | ⟨o, h⟩) | ⟨o, its, n, h, hc, _⟩
      · exact ⟨"list", by simp, .base (.lst h)⟩
      · exact ⟨"list", by simp, .base (.frz h)⟩
      · exact ⟨"list", by simp, .kList h hc⟩
    | tup hs _ =>
      rcases hs with (h | ⟨o, h⟩) | ⟨o, its, n, h, hc, _⟩
      · exact ⟨"tuple", by simp, .base (.tup h)⟩
      · exact ⟨"tuple", by simp, .fTuple h⟩
      · exact ⟨"tuple", by simp, .kTuple h hc⟩
  | dict h1 => exact ⟨"dict", by simp, .base (.dK h1)⟩
theorem Pla.fr {H : Hp} {v : V} (h : Pla K H v) : flatV v = true ∨ ∃ a, v = .ref a := by
  cases h with
  | data h1 _ => cases h1 <;> first | exact .inl rfl | exact .inr ⟨_, rfl⟩
  | dict h1 => exact .inr ⟨_, rfl⟩
/-- no number from 0 on -/
def PlaN (K : PySem.W.Frag) (H : Hp) (v : V) : Prop := Pla K H v ∧ ∀ i : Int, v = .int i → ¬ 0 ≤ i
theorem PlaN.gx {H H' : Hp} {v : V} (h : PlaN K H v) (e : Gx nob H H') : PlaN K H' v := ⟨h.1.gx e, h.2⟩
theorem PlaN.ex {H H' : Hp} {v : V} (h : PlaN K H v) (e : Ex H H') : PlaN K H' v := ⟨h.1.ex e, h.2⟩
theorem PlaN.up {H H' : Hp} {a : Addr} {v : V} (h : PlaN K H v) (hp : Pool H a) (e : Gr (· = a) H H') : PlaN K H' v := ⟨h.1.up hp e, h.2⟩
theorem PlaN.dt {H : Hp} {v : V} (h : PlaN K H v) : ∃ d, DT K H v d ∧ d.isNum = false := by
  obtain ⟨d, hd⟩ := h.1.dt
  refine ⟨d, hd, ?_⟩
  cases d with
  | int i =>
    cases hd
    exact decide_eq_false (h.2 i rfl)
  | _ => rfl
theorem pla_non {H : Hp} : Pla K H .non := .data .non (by simp only [tagL])
theorem pla_bl {H : Hp} (b : Bool) : Pla K H (.bl b) := .data (.bl b) (by simp only [tagL])
theorem pla_int {H : Hp} (i : Int) : Pla K H (.int i) := .data (.int i) (by simp only [tagL])
theorem pla_str {H : Hp} (s : Str) : Pla K H (.str s) := .data (.str s) (by simp only [tagL])
theorem pla_tup {H : Hp} {a : Addr} {xs : List V} {ds : List PyData} (h : SqT K H a xs) (hd : DpAll K H xs ds) (ht : tagLs ds = true) : Pla K H (.ref a) := .data (.tup h hd) (by simp only [tagL, ht])
theorem pla_lst {H : Hp} {a : Addr} {xs : List V} {ds : List PyData} (h : H a = some (.lst xs)) (hd : DpAll K H xs ds) (hl : ds.length ≤ 2) (ht : tagLs ds = true) : Pla K H (.ref a) := .data (.lst (sqL h) hd) (by simp only [tagL, ht, Bool.and_true]; exact decide_eq_true hl)
abbrev s_law_odd : Stmt := topS 116
theorem sc_law_odd : FnScope ["_law_jar_here"] ["_law_jar_here"] (defScope s_law_odd) := ⟨rfl, rfl, rfl, by decide +kernel, rfl, by decide +kernel, by decide +kernel⟩
def spOddJ (K : PySem.W.Frag) : Sp := fun vs H Q _ => ∃ a, vs = [.ref a] ∧ Pool H a ∧ ∀ v H', Gr (· = a) H H' → Pool H' a → Pla K H' v → Q v H'
theorem ok_law_odd (c_law_take : Cal P w K mg base 2 "_law_take" ["_law_jar_here", "_law_some"] (spTake K)) (D0 : Df K mg "_law_odd" s_law_odd) : Cal P w K mg base 3 "_law_odd" ["_law_jar_here"] (spOddJ K) := by
  refine D0.cal sc_law_odd (fun _ _ _ _ _ _ us hl => match us, hl with | [_], _ => rfl) (fun vs H Q E h => ?_) (fun f cdv A outer s H vs Q E hr h => ?_)
  · obtain ⟨a, rfl, _⟩ := h
    rfl
  · obtain ⟨a, rfl, hp, q⟩ := h
    refine ⟨_, (pss_one (ps_ret (pe_cal c_law_take hr (by decide) rfl (pa_cons (pv 0) (pa_cons (pe_lst (pa_cons pe_non (pa_cons pe_int (pa_cons pe_bl (pa_cons pe_str (pa_cons pe_str (pa_cons (pe_tup pa_nil) (pa_cons (pe_lst pa_nil) (pa_cons pe_dnewK (pa_cons (pe_tup (pa_cons (pe_tup (pa_cons pe_str pa_nil)) (pa_cons (pe_tup pa_nil) (pa_cons (pe_tup pa_nil) pa_nil)))) (pa_cons (pe_tup (pa_cons pe_str pa_nil)) pa_nil))))))))))) pa_nil))))), ?_⟩
    unfold tDNewK
    walk_at "rd"
    refine ⟨by decide, fun p1 n1 => ?_⟩
    have e1 : Ex H (upd H p1 (HO.tup [])) := .new n1
    have f1 := upd_same (H := H) (a := p1) (o := HO.tup [])
    generalize upd H p1 (HO.tup []) = H1 at e1 f1 ⊢
    refine ⟨by decide, fun p2 n2 => ?_⟩
    have e2 : Ex H1 (upd H1 p2 (HO.lst [])) := .new n2
    have f2 := upd_same (H := H1) (a := p2) (o := HO.lst [])
    generalize upd H1 p2 (HO.lst []) = H2 at e2 f2 ⊢
    refine fun p3 n3 => ?_
    have e3 : Ex H2 (upd H2 p3 (HO.dK [])) := .new n3
    have f3 := upd_same (H := H2) (a := p3) (o := HO.dK [])
    generalize upd H2 p3 (HO.dK []) = H3 at e3 f3 ⊢
    refine ⟨by decide, fun p4 n4 => ?_⟩
    have e4 : Ex H3 (upd H3 p4 (HO.tup [V.str "w"])) := .new n4
    have f4 := upd_same (H := H3) (a := p4) (o := HO.tup [V.str "w"])
    generalize upd H3 p4 (HO.tup [V.str "w"]) = H4 at e4 f4 ⊢
    refine ⟨by decide, fun p5 n5 => ?_⟩
    have e5 : Ex H4 (upd H4 p5 (HO.tup [])) := .new n5
    have f5 := upd_same (H := H4) (a := p5) (o := HO.tup [])
    generalize upd H4 p5 (HO.tup []) = H5 at e5 f5 ⊢
    refine ⟨by decide, fun p6 n6 => ?_⟩
    have e6 : Ex H5 (upd H5 p6 (HO.tup [])) := .new n6
    have f6 := upd_same (H := H5) (a := p6) (o := HO.tup [])
    generalize upd H5 p6 (HO.tup []) = H6 at e6 f6 ⊢
    refine ⟨by decide, fun p7 n7 => ?_⟩
    have e7 : Ex H6 (upd H6 p7 (HO.tup [V.ref p4, .ref p5, .ref p6])) := .new n7
    have f7 := upd_same (H := H6) (a := p7) (o := HO.tup [V.ref p4, .ref p5, .ref p6])
    generalize upd H6 p7 (HO.tup [V.ref p4, .ref p5, .ref p6]) = H7 at e7 f7 ⊢
    refine ⟨by decide, fun p8 n8 => ?_⟩
    have e8 : Ex H7 (upd H7 p8 (HO.tup [V.str "ann"])) := .new n8
    have f8 := upd_same (H := H7) (a := p8) (o := HO.tup [V.str "ann"])
    generalize upd H7 p8 (HO.tup [V.str "ann"]) = H8 at e8 f8 ⊢
    refine ⟨by decide, fun p9 n9 => ?_⟩
    have e9 : Ex H8 (upd H8 p9 (HO.lst [V.non, .int 0, .bl true, .str "measure w", .str "", .ref p1, .ref p2, .ref p3, .ref p7, .ref p8])) := .new n9
    have f9 := upd_same (H := H8) (a := p9) (o := HO.lst [V.non, .int 0, .bl true, .str "measure w", .str "", .ref p1, .ref p2, .ref p3, .ref p7, .ref p8])
    generalize upd H8 p9 (HO.lst [V.non, .int 0, .bl true, .str "measure w", .str "", .ref p1, .ref p2, .ref p3, .ref p7, .ref p8]) = H9 at e9 f9 ⊢
    have g1 := (e2.trans (e3.trans (e4.trans (e5.trans (e6.trans (e7.trans (e8.trans (e9)))))))).get f1
    have g2 := (e3.trans (e4.trans (e5.trans (e6.trans (e7.trans (e8.trans (e9))))))).get f2
    have g3 := (e4.trans (e5.trans (e6.trans (e7.trans (e8.trans (e9)))))).get f3
    have g4 := (e5.trans (e6.trans (e7.trans (e8.trans (e9))))).get f4
    have g5 := (e6.trans (e7.trans (e8.trans (e9)))).get f5
    have g6 := (e7.trans (e8.trans (e9))).get f6
    have g7 := (e8.trans (e9)).get f7
    have g8 := (e9).get f8
    have E1 : Ex H H9 := e1.trans (e2.trans (e3.trans (e4.trans (e5.trans (e6.trans (e7.trans (e8.trans (e9))))))))
    have hall : ∀ v ∈ ([V.non, .int 0, .bl true, .str "measure w", .str "", .ref p1, .ref p2, .ref p3, .ref p7, .ref p8] : List V), Pla K H9 v := by
      intro v hv
      simp only [List.mem_cons, List.not_mem_nil, or_false] at hv
      rcases hv with rfl | rfl | rfl | rfl | rfl | rfl | rfl | rfl | rfl | rfl
      · exact pla_non
      · exact pla_int _
      · exact pla_bl _
      · exact pla_str _
      · exact pla_str _
      · exact pla_tup (sqT g1) .nil rfl
      · exact pla_lst g2 .nil (by decide) rfl
      · exact .dict g3
      · exact pla_tup (sqT g7) (.cons (.tup (sqT g4) (.cons (.str _) .nil)) (.cons (.tup (sqT g5) .nil) (.cons (.tup (sqT g6) .nil) .nil))) rfl
      · exact pla_tup (sqT g8) (.cons (.str _) .nil) rfl
    refine ⟨a, p9, _, rfl, hp.ex E1, sqL f9, fun z => ?_, ⟨by simp, by simp⟩, fun v H' hv y1 y2 => q v H' (E1.of.trans y1) y2 ((hall v hv).up (hp.ex E1) y1)⟩
    subst z
    obtain ⟨_, _, _, hz⟩ := hp.ex E1
    rw [f9] at hz
    cases hz
abbrev s_law_no_number : Stmt := topS 117
theorem sc_law_no_number : FnScope ["_law_jar_here"] ["_law_jar_here"] (defScope s_law_no_number) := ⟨rfl, rfl, rfl, by decide +kernel, rfl, by decide +kernel, by decide +kernel⟩
def spNoNum (K : PySem.W.Frag) : Sp := fun vs H Q _ => ∃ a, vs = [.ref a] ∧ Pool H a ∧ ∀ v H', Gr (· = a) H H' → Pool H' a → PlaN K H' v → Q v H'
theorem ok_law_no_number (c_law_take : Cal P w K mg base 2 "_law_take" ["_law_jar_here", "_law_some"] (spTake K)) (D0 : Df K mg "_law_no_number" s_law_no_number) : Cal P w K mg base 3 "_law_no_number" ["_law_jar_here"] (spNoNum K) := by
  refine D0.cal sc_law_no_number (fun _ _ _ _ _ _ us hl => match us, hl with | [_], _ => rfl) (fun vs H Q E h => ?_) (fun f cdv A outer s H vs Q E hr h => ?_)
  · obtain ⟨a, rfl, _⟩ := h
    rfl
  · obtain ⟨a, rfl, hp, q⟩ := h
    refine ⟨_, (pss_one (ps_ret (pe_cal c_law_take hr (by decide) rfl (pa_cons (pv 0) (pa_cons (pe_lst (pa_cons pe_non (pa_cons pe_bl (pa_cons pe_bl (pa_cons pe_str (pa_cons (pe_tup pa_nil) (pa_cons (pe_tup (pa_cons pe_int pa_nil)) (pa_cons (pe_lst (pa_cons pe_int pa_nil)) (pa_cons pe_dnewK (pa_cons (pe_un un_neg pe_int) (pa_cons (pe_un un_neg (pe_op op_pow pe_int pe_int)) pa_nil))))))))))) pa_nil))))), ?_⟩
    unfold tDNewK
    walk_at "rd"
    refine ⟨by decide, fun p1 n1 => ?_⟩
    have e1 : Ex H (upd H p1 (HO.tup [])) := .new n1
    have f1 := upd_same (H := H) (a := p1) (o := HO.tup [])
    generalize upd H p1 (HO.tup []) = H1 at e1 f1 ⊢
    refine ⟨by decide, fun p2 n2 => ?_⟩
    have e2 : Ex H1 (upd H1 p2 (HO.tup [V.int 1])) := .new n2
    have f2 := upd_same (H := H1) (a := p2) (o := HO.tup [V.int 1])
    generalize upd H1 p2 (HO.tup [V.int 1]) = H2 at e2 f2 ⊢
    refine ⟨by decide, fun p3 n3 => ?_⟩
    have e3 : Ex H2 (upd H2 p3 (HO.lst [V.int 2])) := .new n3
    have f3 := upd_same (H := H2) (a := p3) (o := HO.lst [V.int 2])
    generalize upd H2 p3 (HO.lst [V.int 2]) = H3 at e3 f3 ⊢
    refine fun p4 n4 => ?_
    have e4 : Ex H3 (upd H3 p4 (HO.dK [])) := .new n4
    have f4 := upd_same (H := H3) (a := p4) (o := HO.dK [])
    generalize upd H3 p4 (HO.dK []) = H4 at e4 f4 ⊢
    refine ⟨⟨by decide, by decide, by decide⟩, by decide, fun p5 n5 => ?_⟩
    have e5 : Ex H4 (upd H4 p5 (HO.lst [V.non, .bl true, .bl false, .str "1", .ref p1, .ref p2, .ref p3, .ref p4, .int (-1), .int (-10 ^ Int.toNat 20)])) := .new n5
    have f5 := upd_same (H := H4) (a := p5) (o := HO.lst [V.non, .bl true, .bl false, .str "1", .ref p1, .ref p2, .ref p3, .ref p4, .int (-1), .int (-10 ^ Int.toNat 20)])
    generalize upd H4 p5 (HO.lst [V.non, .bl true, .bl false, .str "1", .ref p1, .ref p2, .ref p3, .ref p4, .int (-1), .int (-10 ^ Int.toNat 20)]) = H5 at e5 f5 ⊢
    have g1 := (e2.trans (e3.trans (e4.trans (e5)))).get f1
    have g2 := (e3.trans (e4.trans (e5))).get f2
    have g3 := (e4.trans (e5)).get f3
    have g4 := (e5).get f4
    have E1 : Ex H H5 := e1.trans (e2.trans (e3.trans (e4.trans (e5))))
    have hall : ∀ v ∈ ([V.non, .bl true, .bl false, .str "1", .ref p1, .ref p2, .ref p3, .ref p4, .int (-1), .int (-10 ^ Int.toNat 20)] : List V), PlaN K H5 v := by
      intro v hv
      simp only [List.mem_cons, List.not_mem_nil, or_false] at hv
      rcases hv with rfl | rfl | rfl | rfl | rfl | rfl | rfl | rfl | rfl | rfl
      · exact ⟨pla_non, fun i z => by cases z⟩
      · exact ⟨pla_bl _, fun i z => by cases z⟩
      · exact ⟨pla_bl _, fun i z => by cases z⟩
      · exact ⟨pla_str _, fun i z => by cases z⟩
      · exact ⟨pla_tup (sqT g1) .nil rfl, fun i z => by cases z⟩
      · exact ⟨pla_tup (sqT g2) (.cons (.int _) .nil) rfl, fun i z => by cases z⟩
      · exact ⟨pla_lst g3 (.cons (.int _) .nil) (by decide) rfl, fun i z => by cases z⟩
      · exact ⟨.dict g4, fun i z => by cases z⟩
      · exact ⟨pla_int _, fun i z => by cases z; decide⟩
      · exact ⟨pla_int _, fun i z => by cases z; decide⟩
    refine ⟨a, p5, _, rfl, hp.ex E1, sqL f5, fun z => ?_, ⟨by simp, by simp⟩, fun v H' hv y1 y2 => q v H' (E1.of.trans y1) y2 ((hall v hv).up (hp.ex E1) y1)⟩
    subst z
    obtain ⟨_, _, _, hz⟩ := hp.ex E1
    rw [f5] at hz
    cases hz
end
end K11

namespace K11
open PySem PySem.Spec PyProof.Rows L2 Z ZE
local macro_rules | `(tactic| walk_at "rd") => `(tactic| try simp only [cxOf, tSeq, tIfS, tRet, tRetN, tAsg, tDrop, tNext, tBreak, tCont, tNever, tPar, tPar3, tAug, gName, gTup, gCons, gNil, gSub, tVar, tC, tOp, tUn, tCB, tBM, tBM0, tCons, tNil, tTest, tB, tAnd, tOr, tNot, tAndV, tOrV, tNotV, tIf, tChain,
  tTup, tLst, tCall, tMeth, tSl, tPart, tNoPart, tM1, tFmt, tJs_nil, tJs_cons, tCKw, rI0, rI, rU, rEq, rNe, scal_ii, scal_ss, scal_bb, ipI, iStr, iTup, iList, iRng1, sFld, tFld, L2.start, List.getElem?_cons_zero, List.getElem?_cons_succ, List.set_cons_zero, List.set_cons_succ, Option.some.injEq, V.int.injEq, V.bl.injEq, V.str.injEq, V.ref.injEq,
  List.cons.injEq, exists_and_left, exists_eq_left', exists_eq_left, exists_eq_right, exists_eq_right', exists_eq', exists_eq, and_true, true_and, and_self, List.map_cons, List.map_nil, List.length_cons, List.length_nil, List.replicate_succ, List.replicate_zero, List.cons_append, List.nil_append, List.append_nil,
  Nat.add_sub_cancel, Nat.reduceAdd, Nat.reduceSub, if_true, if_false, ite_true, ite_false, Bool.not_true, Bool.not_false, Bool.true_eq_false, Bool.false_eq_true, reduceIte, reduceCtorEq, false_and, exists_false, or_false, false_or, decide_true, decide_false, wipe])

section
variable {P : Program} {w : World} {K : PySem.W.Frag} {mg : Str → Option Value} {base : Heap} {C CN CI fN fI : Addr} {qN qI : Str}
/-- a thing that is no order -/
def NotO (K : PySem.W.Frag) (C : Addr) (H : Hp) (v : V) : Prop := ∃ t, TyX K H v t ∧ PySem.W.kitOne K t (.ref C) = some false
/-- an order, so far as its people go -/
def IsO (K : PySem.W.Frag) (C : Addr) (H : Hp) (v : V) : Prop := ∃ (a dx c : Addr) (m k : V) (t : Str) (px : List V), v = .ref a ∧ H a = some (.ins C dx (fldsO m k (.ref c) t)) ∧ SqT K H c px
theorem OrdAt.isO {H : Hp} {a : Addr} {o : Od} (h : OrdAt K C H a o) : IsO K C H (.ref a) := by
  obtain ⟨dx, a1, b, c, h1, h2⟩ := h
  obtain ⟨px, h3, _⟩ := h2.p
  exact ⟨a, dx, c, _, _, _, px, rfl, h1, h3⟩
theorem IsO.gx {H H' : Hp} {v : V} (h : IsO K C H v) (e : Gx nob H H') : IsO K C H' v := by
  obtain ⟨a, dx, c, m, k, t, px, rfl, h1, h2⟩ := h
  exact ⟨a, dx, c, m, k, t, px, rfl, e.ins h1 id, e.seqT h2⟩
theorem IsO.up {H H' : Hp} {a : Addr} {v : V} (h : IsO K C H v) (hp : Pool H a) (e : Gr (· = a) H H') : IsO K C H' v := by
  obtain ⟨b, dx, c, m, k, t, px, rfl, h1, h2⟩ := h
  refine ⟨b, dx, c, m, k, t, px, rfl, e.at h1 fun z => ?_, e.seqT h2⟩
  obtain ⟨_, _, _, hz⟩ := hp
  rw [← z, h1] at hz
  cases hz
theorem isi_no {H : Hp} {v : V} {Q : VK} (h : NotO K C H v) (q : Q (.bl false) H) : rIsi K [v, .ref C] H Q := by
  obtain ⟨t, h1, h2⟩ := h
  exact ⟨v, .ref C, t, .ref C, false, rfl, .own C, h1, h2, q⟩
theorem isi_yes {H : Hp} {v : V} {Q : VK} (T : OrdC K C) (I : IsC K C) (h : IsO K C H v) (q : Q (.bl true) H) : rIsi K [v, .ref C] H Q := by
  obtain ⟨a, dx, c, m, k, t, px, rfl, h, _⟩ := h
  exact isi_own T.cl I h q
abbrev s_check_number : Stmt := topS 29
theorem sc_check_number : FnScope ["value"] ["value"] (defScope s_check_number) := ⟨rfl, rfl, rfl, by decide +kernel, rfl, by decide +kernel, by decide +kernel⟩
def spCkNum (K : PySem.W.Frag) (CI : Addr) : Sp := fun vs H Q E => ∃ v d, vs = [v] ∧ DT K H v d ∧ (d.isNum = true → Q .non H) ∧ (d.isNum = false → raised1 CI "given" v H E)
theorem ok_check_number (er_InvalidNumber : PySem.ErrG.ErTxt K mg "InvalidNumber" qI CI fI) (c_is_number : Cal P w K mg base 2 "is_number" ["value"] (spIsNum K)) (D0 : Df K mg "check_number" s_check_number) : Cal P w K mg base 3 "check_number" ["value"] (spCkNum K CI) := by
  refine D0.calZ sc_check_number (fun _ _ _ _ _ _ us hl => match us, hl with | [_], _ => rfl) (fun vs H Q E h => ?_) (fun f cdv A outer s H vs Q E hr h => ?_)
  · obtain ⟨v, d, rfl, _⟩ := h
    rfl
  · obtain ⟨v, d, rfl, hd, q1, q2⟩ := h
    refine ⟨_, (pss_one (ps_if (pt_not (pt_val (pe_cal c_is_number hr (by decide) rfl (pa_cons (pv 0) pa_nil)))) (pss_one (ps_raiseErG rfl er_InvalidNumber hr (takes_of rfl rfl rfl rfl) (by exact (pa_cons (pv 0) pa_nil)) (by rfl))) pss_nil)), ?_⟩
    walk_at "rd"
    refine ⟨v, d, rfl, hd, ?_⟩
    cases hn : d.isNum with
    | true => exact ⟨true, rfl, iteF (q1 hn)⟩
    | false =>
      refine ⟨false, rfl, iteT ?_⟩
      unfold tRaiseErG tMkErG
      walk_at "rd"
      exact fun dd hdd => q2 hn dd _ (.new hdd) upd_same
abbrev s_check_order : Stmt := topS 38
theorem sc_check_order : FnScope ["value"] ["value"] (defScope s_check_order) := ⟨rfl, rfl, rfl, by decide +kernel, rfl, by decide +kernel, by decide +kernel⟩
def spCkO (K : PySem.W.Frag) (C CN : Addr) : Sp := fun vs H Q E => ∃ v, vs = [v] ∧ ((IsO K C H v ∧ Q .non H) ∨ (NotO K C H v ∧ raised1 CN "given" v H E))
theorem ok_check_order (B : Bl mg) (g_Order : mg "Order" = some (.ref C)) (TO : OrdC K C) (IO : IsC K C) (er_NotAnOrder : PySem.ErrG.ErTxt K mg "NotAnOrder" qN CN fN) (D0 : Df K mg "check_order" s_check_order) : Cal P w K mg base 3 "check_order" ["value"] (spCkO K C CN) := by
  refine D0.calZ sc_check_order (fun _ _ _ _ _ _ us hl => match us, hl with | [_], _ => rfl) (fun vs H Q E h => ?_) (fun f cdv A outer s H vs Q E hr h => ?_)
  · obtain ⟨v, rfl, _⟩ := h
    rfl
  · obtain ⟨v, rfl, h⟩ := h
    refine ⟨_, (pss_one (ps_if (pt_not (pt_val (pe_callB (r := rIsi K) call_isi (by rfl) B.isinstance_ (by decide +kernel) (pa_cons (pv 0) (pa_cons (pe_glob (v := .ref C) rfl g_Order rfl) pa_nil))))) (pss_one (ps_raiseErG rfl er_NotAnOrder hr (takes_of rfl rfl rfl rfl) (by exact (pa_cons (pv 0) pa_nil)) (by rfl))) pss_nil)), ?_⟩
    walk_at "rd"
    rcases h with ⟨h, q⟩ | ⟨h, q⟩
    · exact isi_yes TO IO h ⟨true, rfl, iteF q⟩
    · refine isi_no h ⟨false, rfl, iteT ?_⟩
      unfold tRaiseErG tMkErG
      walk_at "rd"
      exact fun dd hdd => q dd _ (.new hdd) upd_same
/-- what is refused: the order, or behind a right one the number -/
def Refd (K : PySem.W.Frag) (C CN CI : Addr) (o b : V) (H : Hp) (E : XK) : Prop := (NotO K C H o ∧ raised1 CN "given" o H E) ∨ (IsO K C H o ∧ ∃ d, DT K H b d ∧ d.isNum = false ∧ raised1 CI "given" b H E)
abbrev s_sharing : Stmt := topS 96
theorem sc_sharing : FnScope ["order", "boxes", "chances", "numbers", "least", "first", "few", "person", "kind"] ["order", "boxes"] (defScope s_sharing) := ⟨rfl, rfl, rfl, by decide +kernel, rfl, by decide +kernel, by decide +kernel⟩
def spShr (K : PySem.W.Frag) (C CN CI : Addr) : Sp := fun vs H Q E => ∃ o b, vs = [o, b] ∧ Refd K C CN CI o b H E
theorem bd_sharing (c_check_order : Cal P w K mg base 3 "check_order" ["value"] (spCkO K C CN)) (c_check_number : Cal P w K mg base 3 "check_number" ["value"] (spCkNum K CI)) : BodyZ P w K mg base 3 "sharing" ["order", "boxes", "chances", "numbers", "least", "first", "few", "person", "kind"] s_sharing (spShr K C CN CI) := by
  intro f cdv A outer s H vs Q E hr h
  obtain ⟨o, b, rfl, h⟩ := h
  refine ⟨_, (pss_cons (ps_expr (pe_calX (passX (takes_of rfl rfl rfl rfl)) c_check_order hr (by decide) rfl (pa_cons (pv 0) pa_nil)))
      (pss_cons (ps_expr (pe_calX (passX (takes_of rfl rfl rfl rfl)) c_check_number hr (by decide) rfl (pa_cons (pv 1) pa_nil)))
      (pss_cons ps_never
      (pss_cons ps_never
      (pss_cons ps_never
      (pss_cons ps_never
      (pss_cons ps_never
      (pss_cons ps_never
      (pss_one ps_never))))))))), ?_⟩
  walk_at "rd"
  rcases h with ⟨h1, h2⟩ | ⟨h1, d, h2, h3, h4⟩
  · exact ⟨o, rfl, .inr ⟨h1, h2⟩⟩
  · exact ⟨o, rfl, .inl ⟨h1, b, d, rfl, h2, (fun z => by rw [h3] at z; cases z), fun _ => h4⟩⟩
theorem ok_sharing (c_check_order : Cal P w K mg base 3 "check_order" ["value"] (spCkO K C CN)) (c_check_number : Cal P w K mg base 3 "check_number" ["value"] (spCkNum K CI)) (D0 : Df K mg "sharing" s_sharing) : Cal P w K mg base 4 "sharing" ["order", "boxes"] (spShr K C CN CI) :=
  D0.calZ sc_sharing (fun _ _ _ _ _ _ us hl => match us, hl with | [_, _], _ => rfl) (fun vs H Q E h => by
    obtain ⟨o, b, rfl, _⟩ := h
    rfl) (bd_sharing c_check_order c_check_number)
abbrev s_reason : Stmt := topS 106
theorem sc_reason : FnScope ["order", "boxes", "numbers"] ["order", "boxes"] (defScope s_reason) := ⟨rfl, rfl, rfl, by decide +kernel, rfl, by decide +kernel, by decide +kernel⟩
theorem ok_reason (c_check_order : Cal P w K mg base 3 "check_order" ["value"] (spCkO K C CN)) (c_check_number : Cal P w K mg base 3 "check_number" ["value"] (spCkNum K CI)) (D0 : Df K mg "reason" s_reason) : CalK P w K mg base 4 "reason" ["order", "boxes"] ["boxes", "order"] (spShr K C CN CI) (fun zs => zs.reverse) := by
  refine D0.calK sc_reason ["boxes", "order"] (fun ws => ws.reverse) _ (fun _ _ _ _ _ _ ws hl => match ws, hl with | [_, _], _ => rfl) (fun zs ws r => r.reverse) (fun vs H Q E h => ?_) ?_
  · obtain ⟨o, b, rfl, _⟩ := h
    rfl
  · intro f cdv A outer s H vs Q E hr h
    obtain ⟨o, b, rfl, h⟩ := h
    refine ⟨_, (pss_cons (ps_expr (pe_calX (passX (takes_of rfl rfl rfl rfl)) c_check_order hr (by decide) rfl (pa_cons (pv 0) pa_nil)))
      (pss_cons (ps_expr (pe_calX (passX (takes_of rfl rfl rfl rfl)) c_check_number hr (by decide) rfl (pa_cons (pv 1) pa_nil)))
      (pss_cons ps_never
      (pss_cons ps_never
      (pss_cons ps_never
      (pss_cons ps_never
      (pss_one ps_never))))))), ?_⟩
    walk_at "rd"
    rcases h with ⟨h1, h2⟩ | ⟨h1, d, h2, h3, h4⟩
    · exact ⟨o, rfl, .inr ⟨h1, h2⟩⟩
    · exact ⟨o, rfl, .inl ⟨h1, b, d, rfl, h2, (fun z => by rw [h3] at z; cases z), fun _ => h4⟩⟩
abbrev s_table : Stmt := topS 94
theorem sc_table : FnScope ["order", "boxes", "due", "rows", "parts", "room", "kind", "place"] ["order", "boxes"] (defScope s_table) := ⟨rfl, rfl, rfl, by decide +kernel, rfl, by decide +kernel, by decide +kernel⟩
def spTab (K : PySem.W.Frag) (C CN CI : Addr) : Sp := fun vs H Q E => ∃ o b, vs = [o, b] ∧ ((NotO K C H o ∧ raised1 CN "given" o H E) ∨ (IsO K C H o ∧ ∃ d, DT K H b d ∧ d.isIn 0 12 = false ∧ raised1 CI "given" b H E))
theorem ok_table (k_MOST_BOXES : ∃ t, mg "MOST_BOXES" = some (.int 12 t)) (er_InvalidNumber : PySem.ErrG.ErTxt K mg "InvalidNumber" qI CI fI) (c_check_order : Cal P w K mg base 3 "check_order" ["value"] (spCkO K C CN)) (c_is_integer_within : Cal P w K mg base 2 "is_integer_within" ["value", "least", "most"] (spIsIn K)) (D0 : Df K mg "table" s_table) :
    CalK P w K mg base 4 "table" ["order", "boxes"] ["boxes", "order"] (spTab K C CN CI) (fun zs => zs.reverse) := by
  refine D0.calK sc_table ["boxes", "order"] (fun ws => ws.reverse) _ (fun _ _ _ _ _ _ ws hl => match ws, hl with | [_, _], _ => rfl) (fun zs ws r => r.reverse) (fun vs H Q E h => ?_) ?_
  · obtain ⟨o, b, rfl, _⟩ := h
    rfl
  · intro f cdv A outer s H vs Q E hr h
    obtain ⟨o, b, rfl, h⟩ := h
    refine ⟨_, (pss_cons (ps_expr (pe_calX (passX (takes_of rfl rfl rfl rfl)) c_check_order hr (by decide) rfl (pa_cons (pv 0) pa_nil)))
      (pss_cons (ps_if (pt_not (pt_val (pe_cal c_is_integer_within hr (by decide) rfl (pa_cons (pv 1) (pa_cons pe_int (pa_cons (pe_gi rfl k_MOST_BOXES) pa_nil)))))) (pss_one (ps_raiseErG rfl er_InvalidNumber hr (takes_of rfl rfl rfl rfl) (by exact (pa_cons (pv 1) pa_nil)) (by rfl))) pss_nil)
      (pss_cons ps_never
      (pss_cons ps_never
      (pss_cons ps_never
      (pss_cons ps_never
      (pss_cons ps_never
      (pss_cons ps_never
      (pss_one ps_never))))))))), ?_⟩
    walk_at "rd"
    rcases h with ⟨h1, h2⟩ | ⟨h1, d, h2, h3, h4⟩
    · exact ⟨o, rfl, .inr ⟨h1, h2⟩⟩
    · refine ⟨o, rfl, .inl ⟨h1, b, d, 0, 12, rfl, h2, ?_⟩⟩
      rw [h3]
      refine ⟨false, rfl, iteT ?_⟩
      unfold tRaiseErG tMkErG
      walk_at "rd"
      exact fun dd hdd => h4 dd _ (.new hdd) upd_same
def spNo1 (K : PySem.W.Frag) (C CN : Addr) : Sp := fun vs H Q E => ∃ o, vs = [o] ∧ NotO K C H o ∧ raised1 CN "given" o H E
abbrev s_possible : Stmt := topS 95
theorem sc_possible : FnScope ["order"] ["order"] (defScope s_possible) := ⟨rfl, rfl, rfl, by decide +kernel, rfl, by decide +kernel, by decide +kernel⟩
theorem ok_possible (c_check_order : Cal P w K mg base 3 "check_order" ["value"] (spCkO K C CN)) (D0 : Df K mg "possible" s_possible) : CalK P w K mg base 4 "possible" ["order"] ["order"] (spNo1 K C CN) (fun zs => zs) := by
  refine D0.calK sc_possible ["order"] (fun ws => ws) _ (fun _ _ _ _ _ _ ws hl => match ws, hl with | [_], _ => rfl) (fun zs ws r => r) (fun vs H Q E h => ?_) ?_
  · obtain ⟨o, rfl, _⟩ := h
    rfl
  · intro f cdv A outer s H vs Q E hr h
    obtain ⟨o, rfl, h1, h2⟩ := h
    refine ⟨_, (pss_cons (ps_expr (pe_calX (passX (takes_of rfl rfl rfl rfl)) c_check_order hr (by decide) rfl (pa_cons (pv 0) pa_nil)))
      (pss_one ps_never)), ?_⟩
    walk_at "rd"
    exact ⟨o, rfl, .inr ⟨h1, h2⟩⟩
abbrev s_used : Stmt := topS 97
theorem sc_used : FnScope ["order", "at", "row"] ["order"] (defScope s_used) := ⟨rfl, rfl, rfl, by decide +kernel, rfl, by decide +kernel, by decide +kernel⟩
theorem ok_used (c_check_order : Cal P w K mg base 3 "check_order" ["value"] (spCkO K C CN)) (D0 : Df K mg "used" s_used) : CalK P w K mg base 4 "used" ["order"] ["order"] (spNo1 K C CN) (fun zs => zs) := by
  refine D0.calK sc_used ["order"] (fun ws => ws) _ (fun _ _ _ _ _ _ ws hl => match ws, hl with | [_], _ => rfl) (fun zs ws r => r) (fun vs H Q E h => ?_) ?_
  · obtain ⟨o, rfl, _⟩ := h
    rfl
  · intro f cdv A outer s H vs Q E hr h
    obtain ⟨o, rfl, h1, h2⟩ := h
    refine ⟨_, (pss_cons (ps_expr (pe_calX (passX (takes_of rfl rfl rfl rfl)) c_check_order hr (by decide) rfl (pa_cons (pv 0) pa_nil)))
      (pss_one ps_never)), ?_⟩
    walk_at "rd"
    exact ⟨o, rfl, .inr ⟨h1, h2⟩⟩
abbrev s_is_sharing : Stmt := topS 93
theorem sc_is_sharing : FnScope ["order", "boxes", "sharing", "given", "at", "name", "count", "worths", "person", "gifts"] ["order", "boxes", "sharing"] (defScope s_is_sharing) := ⟨rfl, rfl, rfl, by decide +kernel, rfl, by decide +kernel, by decide +kernel⟩
def spIsS (K : PySem.W.Frag) (C CN CI : Addr) : Sp := fun vs H Q E => ∃ o b v, vs = [o, b, v] ∧ (Refd K C CN CI o b H E ∨ (IsO K C H o ∧ v = .non ∧ (∃ d, DT K H b d ∧ d.isNum = true) ∧ Q (.bl false) H))
theorem bd_is_sharing (B : Bl mg) (p_people : Prp P w K mg base 1 C "people" "_people") (c_is_tuple_of : Cal P w K mg base 1 "is_tuple_of" ["value", "many"] (spTupOf K)) (c_check_order : Cal P w K mg base 3 "check_order" ["value"] (spCkO K C CN)) (c_check_number : Cal P w K mg base 3 "check_number" ["value"] (spCkNum K CI)) : BodyZ P w K mg base 3 "is_sharing" ["order", "boxes", "sharing", "given", "at", "name", "count", "worths", "person", "gifts"] s_is_sharing (spIsS K C CN CI) := by
  intro f cdv A outer s H vs Q E hr h
  obtain ⟨o, b, v, rfl, h⟩ := h
  refine ⟨_, (pss_cons (ps_expr (pe_calX (passX (takes_of rfl rfl rfl rfl)) c_check_order hr (by decide) rfl (pa_cons (pv 0) pa_nil)))
      (pss_cons (ps_expr (pe_calX (passX (takes_of rfl rfl rfl rfl)) c_check_number hr (by decide) rfl (pa_cons (pv 1) pa_nil)))
      (pss_cons (ps_if (pt_not (pt_val (pe_cal c_is_tuple_of hr (by decide) rfl (pa_cons (pv 2) (pa_cons (pe_callB (r := rLenQ K) call_len_seq (by rfl) B.len_ PySem.boot_len (pa_cons (pe_prp p_people hr (by decide) (pv 0)) pa_nil)) pa_nil))))) (pss_one (ps_ret pe_bl)) pss_nil)
      (pss_cons ps_never
      (pss_cons ps_never
      (pss_cons ps_never
      (pss_one ps_never))))))), ?_⟩
  walk_at "rd"
  rcases h with (⟨h1, h2⟩ | ⟨h1, d, h2, h3, h4⟩) | ⟨h1, rfl, ⟨d, h2, h3⟩, h4⟩
  · exact ⟨o, rfl, .inr ⟨h1, h2⟩⟩
  · exact ⟨o, rfl, .inl ⟨h1, b, d, rfl, h2, (fun z => by rw [h3] at z; cases z), fun _ => h4⟩⟩
  · refine ⟨o, rfl, .inl ⟨h1, b, d, rfl, h2, (fun _ => ?_), fun z => by rw [h3] at z; cases z⟩⟩
    obtain ⟨x, dx, c1, m1, k1, t1, px, rfl, hx, hp1⟩ := h1
    exact ⟨_, rfl, x, dx, _, rfl, hx, x, dx, _, _, rfl, hx, fl_p _ _ _ _, c1, px, rfl, .inr hp1, .non, .non, _, rfl, .non, false, rfl, iteT h4⟩
theorem ok_is_sharing (B : Bl mg) (p_people : Prp P w K mg base 1 C "people" "_people") (c_is_tuple_of : Cal P w K mg base 1 "is_tuple_of" ["value", "many"] (spTupOf K)) (c_check_order : Cal P w K mg base 3 "check_order" ["value"] (spCkO K C CN)) (c_check_number : Cal P w K mg base 3 "check_number" ["value"] (spCkNum K CI)) (D0 : Df K mg "is_sharing" s_is_sharing) :
    Cal P w K mg base 4 "is_sharing" ["order", "boxes", "sharing"] (spIsS K C CN CI) :=
  D0.calZ sc_is_sharing (fun _ _ _ _ _ _ us hl => match us, hl with | [_, _, _], _ => rfl) (fun vs H Q E h => by
    obtain ⟨o, b, v, rfl, _⟩ := h
    rfl) (bd_is_sharing B p_people c_is_tuple_of c_check_order c_check_number)
theorem ok_is_sharingK (B : Bl mg) (p_people : Prp P w K mg base 1 C "people" "_people") (c_is_tuple_of : Cal P w K mg base 1 "is_tuple_of" ["value", "many"] (spTupOf K)) (c_check_order : Cal P w K mg base 3 "check_order" ["value"] (spCkO K C CN)) (c_check_number : Cal P w K mg base 3 "check_number" ["value"] (spCkNum K CI)) (D0 : Df K mg "is_sharing" s_is_sharing) :
    CalK P w K mg base 4 "is_sharing" ["order", "boxes", "sharing"] ["sharing", "boxes", "order"] (spIsS K C CN CI) (fun zs => zs.reverse) :=
  D0.calK sc_is_sharing ["sharing", "boxes", "order"] (fun ws => ws.reverse) _ (fun _ _ _ _ _ _ ws hl => match ws, hl with | [_, _, _], _ => rfl) (fun zs ws r => r.reverse) (fun vs H Q E h => by
    obtain ⟨o, b, v, rfl, _⟩ := h
    rfl) (bd_is_sharing B p_people c_is_tuple_of c_check_order c_check_number)
end
end K11

namespace K11
open PySem PySem.Spec PyProof.Rows L2 Z ZE LamX
local macro_rules | `(tactic| walk_at "rd") => `(tactic| try simp only [cxOf, tSeq, tIfS, tRet, tRetN, tAsg, tDrop, tNext, tBreak, tCont, tNever, tPar, tPar3, tAug, gName, gTup, gCons, gNil, gSub, tVar, tC, tOp, tUn, tCB, tBM, tBM0, tCons, tNil, tTest, tB, tAnd, tOr, tNot, tAndV, tOrV, tNotV, tIf, tChain,
  tTup, tLst, tCall, tMeth, tSl, tPart, tNoPart, tM1, tFmt, tJs_nil, tJs_cons, tCKw, rI0, rI, rU, rEq, rNe, scal_ii, scal_ss, scal_bb, ipI, iStr, iTup, iList, iRng1, sFld, tFld, L2.start, List.getElem?_cons_zero, List.getElem?_cons_succ, List.set_cons_zero, List.set_cons_succ, Option.some.injEq, V.int.injEq, V.bl.injEq, V.str.injEq, V.ref.injEq,
  List.cons.injEq, exists_and_left, exists_eq_left', exists_eq_left, exists_eq_right, exists_eq_right', exists_eq', exists_eq, and_true, true_and, and_self, List.map_cons, List.map_nil, List.length_cons, List.length_nil, List.replicate_succ, List.replicate_zero, List.cons_append, List.nil_append, List.append_nil,
  Nat.add_sub_cancel, Nat.reduceAdd, Nat.reduceSub, if_true, if_false, ite_true, ite_false, Bool.not_true, Bool.not_false, Bool.true_eq_false, Bool.false_eq_true, reduceIte, reduceCtorEq, false_and, exists_false, or_false, false_or, decide_true, decide_false, wipe])

section
variable {P : Program} {w : World} {K : PySem.W.Frag} {mg : Str → Option Value} {base : Heap} {C : Addr}
abbrev s_law_asked : Stmt := topS 118
theorem sc_law_asked : FnScope ["_law_act", "_law_thing", "_law_n"] ["_law_act", "_law_thing", "_law_n"] (defScope s_law_asked) := ⟨rfl, rfl, rfl, by decide +kernel, rfl, by decide +kernel, by decide +kernel⟩
/-- the pair (word, value) at t -/
def PairAt (H : Hp) (t : Addr) (n : Str) (v : V) : Prop := H t = some (.tup [.str n, v])
/-- what is asked is refused, and what is told of it -/
inductive Ask (K : PySem.W.Frag) (C : Addr) (H : Hp) : Int → V → V → Str → V → Prop
  | odd {i : Int} {o b : V} : 0 ≤ i ∧ i < 4 → NotO K C H o → Ask K C H i o b "NotAnOrder" o
  | num {i : Int} {o b : V} {d : D} : 0 ≤ i ∧ i < 4 → IsO K C H o → DT K H b d → d.isNum = false → Ask K C H i o b "InvalidNumber" b
  | tab {o b : V} {d : D} : IsO K C H o → DT K H b d → d.isIn 0 12 = false → Ask K C H 1 o b "InvalidNumber" b
theorem raise_pair {H : Hp} {Q : VK} {i : Nat} {n : Str} {v : V} (hn : er3N[i]? = some n) (hf : er3F i = "given") (q : ∀ t H', Ex H H' → PairAt H' t n v → Q (.ref t) H') : raised1 (He.ga K n) "given" v H (ECau K Q) := fun d H' e hd =>
  ⟨i, n, [("given", v)], v, hn, rfl, .inr ⟨d, rfl, hd⟩, by rw [hf]; rfl, fun t H3 e3 h3 => q t H3 (e.trans e3) h3⟩
theorem isIn_no {d : D} {lo hi : Int} (h : d.isNum = false) (h0 : 0 ≤ lo) : d.isIn lo hi = false := by
  cases d with
  | int i =>
    have h1 : ¬ 0 ≤ i := of_decide_eq_false h
    show (decide (lo ≤ i) && decide (i ≤ hi)) = false
    rw [decide_eq_false (by omega)]
    rfl
  | _ => rfl
theorem ask_refd {H : Hp} {Q : VK} {i : Int} {o b v : V} {n : Str} (h : Ask K C H i o b n v) (hi : i ≠ 1) (q : ∀ t H', Ex H H' → PairAt H' t n v → Q (.ref t) H') : Refd K C (He.ga K "NotAnOrder") (He.ga K "InvalidNumber") o b H (ECau K Q) := by
  cases h with
  | odd _ h => exact .inl ⟨h, raise_pair (i := 0) rfl rfl q⟩
  | num _ h1 h2 h3 => exact .inr ⟨h1, _, h2, h3, raise_pair (i := 1) rfl rfl q⟩
  | tab => exact absurd rfl hi
theorem ask_tab {H : Hp} {Q : VK} {o b v : V} {n : Str} (h : Ask K C H 1 o b n v) (q : ∀ t H', Ex H H' → PairAt H' t n v → Q (.ref t) H') :
    (NotO K C H o ∧ raised1 (He.ga K "NotAnOrder") "given" o H (ECau K Q)) ∨ (IsO K C H o ∧ ∃ d, DT K H b d ∧ d.isIn 0 12 = false ∧ raised1 (He.ga K "InvalidNumber") "given" b H (ECau K Q)) := by
  cases h with
  | odd _ h => exact .inl ⟨h, raise_pair (i := 0) rfl rfl q⟩
  | num _ h1 h2 h3 => exact .inr ⟨h1, _, h2, isIn_no h3 (by decide), raise_pair (i := 1) rfl rfl q⟩
  | tab h1 h2 h3 => exact .inr ⟨h1, _, h2, h3, raise_pair (i := 1) rfl rfl q⟩
def spAsk (K : PySem.W.Frag) (C : Addr) (T : List (Addr × Str)) : Sp := fun vs H Q _ => ∃ (i : Int) (o b : V) (n : Str) (v : V), vs = [.int i, o, b] ∧ (∀ H', Gx nob H H' → Ask K C H' i o b n v) ∧ Tabs T H ∧ ∀ t H', Gx nob H H' → Tabs T H' → PairAt H' t n v → Q (.ref t) H'
theorem ok_law_asked {CN CI c Pt : Addr} {T : List (Addr × Str)} (hCN : CN = He.ga K "NotAnOrder") (hCI : CI = He.ga K "InvalidNumber") (B : Bl mg) (cau : CauD P w K mg base) (tb : TabB base mg c Pt) (hmT : (Pt, ("_law_asked.<locals>.<lambda>" : Str)) ∈ T) (hu : ∀ p ∈ T, p.1 = Pt → p.2 = ("_law_asked.<locals>.<lambda>" : Str))
    (c_is_sharing : Cal P w K mg base 4 "is_sharing" ["order", "boxes", "sharing"] (spIsS K C CN CI)) (c_sharing : Cal P w K mg base 4 "sharing" ["order", "boxes"] (spShr K C CN CI)) (kc_table : CalK P w K mg base 4 "table" ["order", "boxes"] ["boxes", "order"] (spTab K C CN CI) (fun zs => zs.reverse))
    (kc_reason : CalK P w K mg base 4 "reason" ["order", "boxes"] ["boxes", "order"] (spShr K C CN CI) (fun zs => zs.reverse)) (D0 : DfT K mg "_law_asked" s_law_asked c) : CalG P w K mg base 11 "_law_asked" ["_law_act", "_law_thing", "_law_n"] (spAsk K C T) := by
  refine D0.calG sc_law_asked (fun _ _ _ _ _ _ us hl => match us, hl with | [_, _, _], _ => rfl) (fun vs H Q E h => ?_) (fun f A outer s H vs Q E hgd hr h => ?_)
  · obtain ⟨i, o, b, n, v, rfl, _⟩ := h
    rfl
  · obtain ⟨i, o, b, n, v, rfl, ha, tT, q⟩ := h
    refine ⟨_, (pss_cons (ps_if (pt_cmpR op_eq (pv 0) pe_int (nomark _)) (pss_one (ps_ret (pe_cau (k := 4) cau hgd tb rfl hmT hu hr (by decide) (lamS_by (by rfl)) rfl (fun _ _ _ _ _ => rfl) (fun A outer s H E f c' hgd hr => (pe_calX (passX (takes_of rfl rfl rfl rfl)) c_is_sharing hr (by decide) rfl (pa_cons (pv 1) (pa_cons (pv 2) (pa_cons (pe_tup pa_nil) pa_nil)))))))) pss_nil)
      (pss_cons (ps_if (pt_cmpR op_eq (pv 0) pe_int (nomark _)) (pss_one (ps_ret (pe_cau (k := 4) cau hgd tb rfl hmT hu hr (by decide) (lamS_by (by rfl)) rfl (fun _ _ _ _ _ => rfl) (fun A outer s H E f c' hgd hr => (pe_calKX (passX (takes_of rfl rfl rfl rfl)) kc_table hr (by decide) rfl (pk_cons (pv 2) (pk_cons (pv 1) pk_nil))))))) pss_nil)
      (pss_cons (ps_if (pt_cmpR op_eq (pv 0) pe_int (nomark _)) (pss_one (ps_ret (pe_cau (k := 4) cau hgd tb rfl hmT hu hr (by decide) (lamS_by (by rfl)) rfl (fun _ _ _ _ _ => rfl) (fun A outer s H E f c' hgd hr => (pe_calX (passX (takes_of rfl rfl rfl rfl)) c_sharing hr (by decide) rfl (pa_cons (pv 1) (pa_cons (pv 2) pa_nil))))))) pss_nil)
      (pss_one (ps_ret (pe_cau (k := 4) cau hgd tb rfl hmT hu hr (by decide) (lamS_by (by rfl)) rfl (fun _ _ _ _ _ => rfl) (fun A outer s H E f c' hgd hr => (pe_calKX (passX (takes_of rfl rfl rfl rfl)) kc_reason hr (by decide) rfl (pk_cons (pv 2) (pk_cons (pv 1) pk_nil)))))))))), ?_⟩
    subst hCN hCI
    walk_at "rd"
    by_cases h0 : i = 0
    · rw [decide_eq_true h0]
      refine iteT ⟨tT, fun H1 e1 T1 => ?_⟩
      unfold TCau
      walk_at "rd"
      refine ⟨by decide, fun p hp => ⟨o, b, _, rfl, .inl ?_⟩⟩
      have e2 : Ex H1 (upd H1 p (.tup [])) := .new hp
      generalize upd H1 p (.tup []) = H2 at e2 ⊢
      exact ask_refd (ha H2 ((Gx.ext e1).trans e2.x)) (by omega) fun t H' e h => q t H' (((Gx.ext e1).trans e2.x).trans e.x) (Tabs.gr T1 (e2.trans e)) h
    · rw [decide_eq_false h0]
      refine iteF ?_
      by_cases h1 : i = 1
      · rw [decide_eq_true h1]
        subst h1
        refine iteT ⟨tT, fun H1 e1 T1 => ?_⟩
        unfold TCau
        unfold tCallKw
        walk_at "rd"
        exact ⟨o, b, rfl, ask_tab (ha H1 (Gx.ext e1)) fun t H' e h => q t H' ((Gx.ext e1).trans e.x) (Tabs.gr T1 e) h⟩
      · rw [decide_eq_false h1]
        refine iteF ?_
        by_cases h2 : i = 2
        · rw [decide_eq_true h2]
          refine iteT ⟨tT, fun H1 e1 T1 => ?_⟩
          unfold TCau
          walk_at "rd"
          exact ⟨o, b, rfl, ask_refd (ha H1 (Gx.ext e1)) h1 fun t H' e h => q t H' ((Gx.ext e1).trans e.x) (Tabs.gr T1 e) h⟩
        · rw [decide_eq_false h2]
          refine iteF ⟨tT, fun H1 e1 T1 => ?_⟩
          unfold TCau
          unfold tCallKw
          walk_at "rd"
          exact ⟨o, b, rfl, ask_refd (ha H1 (Gx.ext e1)) h1 fun t H' e h => q t H' ((Gx.ext e1).trans e.x) (Tabs.gr T1 e) h⟩
end
end K11

namespace K11
open PySem PySem.Spec PyProof.Rows L2 Z ZE
local macro_rules | `(tactic| walk_at "rd") => `(tactic| try simp only [cxOf, tSeq, tIfS, tRet, tRetN, tAsg, tDrop, tNext, tBreak, tCont, tNever, tPar, tPar3, tAug, gName, gTup, gCons, gNil, gSub, tVar, tC, tOp, tUn, tCB, tBM, tBM0, tCons, tNil, tTest, tB, tAnd, tOr, tNot, tAndV, tOrV, tNotV, tIf, tChain,
  tTup, tLst, tCall, tMeth, tSl, tPart, tNoPart, tM1, tFmt, tJs_nil, tJs_cons, tCKw, rI0, rI, rU, rEq, rNe, scal_ii, scal_ss, scal_bb, ipI, iStr, iTup, iList, iRng1, sFld, tFld, L2.start, List.getElem?_cons_zero, List.getElem?_cons_succ, List.set_cons_zero, List.set_cons_succ, Option.some.injEq, V.int.injEq, V.bl.injEq, V.str.injEq, V.ref.injEq,
  List.cons.injEq, exists_and_left, exists_eq_left', exists_eq_left, exists_eq_right, exists_eq_right', exists_eq', exists_eq, and_true, true_and, and_self, List.map_cons, List.map_nil, List.length_cons, List.length_nil, List.replicate_succ, List.replicate_zero, List.cons_append, List.nil_append, List.append_nil,
  Nat.add_sub_cancel, Nat.reduceAdd, Nat.reduceSub, if_true, if_false, ite_true, ite_false, Bool.not_true, Bool.not_false, Bool.true_eq_false, Bool.false_eq_true, reduceIte, reduceCtorEq, false_and, exists_false, or_false, false_or, decide_true, decide_false, wipe])

section
variable {P : Program} {w : World} {K : PySem.W.Frag} {mg : Str → Option Value} {base : Heap} {C : Addr}
theorem sub_filterJ {r ks : List Str} (h : r.Sublist ks) (hd : ks.Nodup) : r = ks.filter fun k => decide (k ∈ r) := by
  induction h with
  | slnil => rfl
  | @cons l1 l2 a h ih =>
    rw [List.nodup_cons] at hd
    have ha : a ∉ l1 := fun q => hd.1 (h.subset q)
    rw [List.filter_cons, decide_eq_false ha]
    exact ih hd.2
  | @cons_cons l1 l2 a h ih =>
    rw [List.nodup_cons] at hd
    rw [List.filter_cons, decide_eq_true (List.mem_cons_self ..)]
    simp only [if_true]
    congr 1
    have e : l2.filter (fun k => decide (k ∈ a :: l1)) = l2.filter fun k => decide (k ∈ l1) := List.filter_congr fun x hx => by
      have hxa : x ≠ a := fun q => by
        rw [q] at hx
        exact hd.1 hx
      simp [hxa]
    rw [e]
    exact ih hd.2
theorem lst_neJ {H : Hp} {p q : Addr} {o : HO} (h : H p = some o) (hq : H q = none) : p ≠ q := fun z => by
  rw [z, hq] at h
  cases h
theorem snocJ {xs : List V} {ds : List D} {H : Hp} {x : V} {d : D} (h : DTs K H xs ds) (hx : DT K H x d) : DTs K H (xs ++ [x]) (ds ++ [d]) := by
  induction ds generalizing xs with
  | nil =>
    cases h
    exact .cons hx .nil
  | cons e ds ih =>
    cases h with
    | cons h1 h2 => exact .cons h1 (ih h2)
theorem intsJ {lo hi : Int} : ∀ {ys : List V}, (∀ (i : Nat) (y : V), ys[i]? = some y → ∃ n : Int, y = .int n ∧ lo ≤ n ∧ n ≤ hi) → ∃ ws : List Int, ys = ws.map V.int ∧ ∀ x ∈ ws, lo ≤ x ∧ x ≤ hi
  | [], _ => ⟨[], rfl, fun x h => by cases h⟩
  | y :: ys, h => by
    obtain ⟨n, rfl, hn⟩ := h 0 y rfl
    obtain ⟨ws, rfl, hw⟩ := intsJ (ys := ys) fun i z hz => h (i + 1) z hz
    exact ⟨n :: ws, rfl, fun x hx => (List.mem_cons.mp hx).elim (fun e => e ▸ hn) (hw x)⟩
theorem sub_strsJ {r : List V} {ks : List Str} (h : r.Sublist (ks.map V.str)) : ∃ l : List Str, r = l.map V.str ∧ l.Sublist ks := by
  obtain ⟨l, h1, h2⟩ := List.sublist_map_iff.mp h
  exact ⟨l, h2, h1⟩
theorem use_key {α β : Type} (cond : α → β → Prop) {G : α → β → Prop} {Goal : Prop} (h : (∀ b H, cond b H → G b H) → Goal) (k : ∀ b H, cond b H → G b H) : Goal := h k
/-- a list that grows beside a list of words; the pool may change -/
structure LayJ (K : PySem.W.Frag) (H H' : Hp) (a l g : Addr) (ls : List Str) (ds : List D) : Prop where
  gr : Gr (· = a) H H'
  po : Pool H' a
  la : ¬ l = a
  ga : ¬ g = a
  lg : l ≠ g
  fg : H g = none
  ll : H' l = some (.lst (ls.map V.str))
  lx : ∃ xs, H' g = some (.lst xs) ∧ DTs K H' xs ds
theorem LayJ.mono {H H' H'' : Hp} {a l g : Addr} {ls : List Str} {ds : List D} (L : LayJ K H H' a l g ls ds) (e : Gr (· = a) H' H'') (p : Pool H'' a) : LayJ K H H'' a l g ls ds := by
  obtain ⟨xs, g1, g2⟩ := L.lx
  exact ⟨L.gr.trans e, p, L.la, L.ga, L.lg, L.fg, e.at L.ll L.la, ⟨xs, e.at g1 L.ga, g2.mono e.any⟩⟩
theorem LayJ.new {H H' : Hp} {a l g p : Addr} {o : HO} {ls : List Str} {ds : List D} (L : LayJ K H H' a l g ls ds) (hp : H' p = none) : LayJ K H (upd H' p o) a l g ls ds := L.mono (.new hp) (L.po.newN hp)
theorem LayJ.push {H H' : Hp} {a l g : Addr} {ls : List Str} {ds : List D} {xs : List V} {x : V} {d : D} (L : LayJ K H H' a l g ls ds) (l1 : H' g = some (.lst xs)) (l2 : DTs K H' xs ds) (hx : DT K H' x d) : LayJ K H (upd H' g (.lst (xs ++ [x]))) a l g ls (ds ++ [d]) := by
  have eu : Gr (· = g) H' (upd H' g (.lst (xs ++ [x]))) := Gr.refl.put l1 (.inr rfl)
  obtain ⟨_, _, _, p4⟩ := L.po
  exact ⟨L.gr.put l1 (.inl L.fg), ⟨_, _, _, eu.at p4 fun z => L.ga z.symm⟩, L.la, L.ga, L.lg, L.fg, eu.at L.ll L.lg, ⟨_, upd_same, snocJ (l2.mono eu.any) (hx.mono eu.any)⟩⟩
def namesJ : List Str := ["plum", "fig", "kind"]
def folkJ : List Str := ["ann", "person", "c3"]
theorem namesJ_ok : ∀ s ∈ namesJ, nameOk s = true := by decide +kernel
theorem folkJ_ok : ∀ s ∈ folkJ, nameOk s = true := by decide +kernel
theorem namesJ_nd : namesJ.Nodup := by decide +kernel
theorem folkJ_nd : folkJ.Nodup := by decide +kernel
abbrev s_law_plan : Stmt := topS 112
theorem sc_law_plan : FnScope ["_law_jar_here", "_law_most_worth", "_law_most_count", "_law_scales", "_law_three", "_law_labels", "_law_sorts", "_law_label", "_law_worths", "_law_folk", "_law_refused", "_law_scale", "_law_own"] ["_law_jar_here", "_law_most_worth", "_law_most_count"] (defScope s_law_plan) := ⟨rfl, rfl, rfl, by decide +kernel, rfl, by decide +kernel, by decide +kernel⟩
def TupAt (K : PySem.W.Frag) (H : Hp) (x : Addr) (o : Od) : Prop := ∃ a b c, SqT K H x [.ref a, .ref b, .ref c] ∧ PartsAt K H a b c o
def spPlan (K : PySem.W.Frag) : Sp := fun vs H Q _ => ∃ (a : Addr) (W M : Int), vs = [.ref a, .int W, .int M] ∧ Pool H a ∧ (0 ≤ W ∧ W ≤ 6) ∧ (1 ≤ M ∧ M ≤ 3) ∧ ∀ x o H', TupAt K H' x o → Gr (· = a) H H' → Pool H' a → Q (.ref x) H'
theorem ok_law_plan (B : Bl mg) (c_law_dig : Cal P w K mg base 1 "_law_dig" ["_law_jar_here", "_law_many"] spDig) (c_law_take : Cal P w K mg base 2 "_law_take" ["_law_jar_here", "_law_some"] (spTake K)) (D0 : Df K mg "_law_plan" s_law_plan) : Cal P w K mg base 3 "_law_plan" ["_law_jar_here", "_law_most_worth", "_law_most_count"] (spPlan K) := by
  refine D0.cal sc_law_plan (fun _ _ _ _ _ _ us hl => match us, hl with | [_, _, _], _ => rfl) (fun vs H Q E h => ?_) (fun f cdv A outer s H vs Q E hr h => ?_)
  · obtain ⟨a, W, M, rfl, _⟩ := h
    rfl
  · obtain ⟨a, W, M, rfl, hp, hW, hM, q⟩ := h
    refine ⟨_, (pss_cons (ps_set (i := 3) sc_law_plan.nd rfl (.inl rfl) (pe_cal c_law_take hr (by decide) rfl (pa_cons (pv 0) (pa_cons (pe_lst (pa_cons (pe_tup (pa_cons pe_str pa_nil)) (pa_cons (pe_tup (pa_cons pe_str pa_nil)) (pa_cons (pe_tup (pa_cons pe_str (pa_cons pe_str pa_nil))) pa_nil)))) pa_nil))))
      (pss_cons (ps_set (i := 4) sc_law_plan.nd rfl (.inl rfl) (pe_and (pe_cmpR op_eq (pe_callB (r := rLenQ K) call_len_seq (by rfl) B.len_ PySem.boot_len (pa_cons (pv 3) pa_nil)) pe_int (nomark _)) (pe_one (pe_cmpR op_eq (pe_cal c_law_dig hr (by decide) rfl (pa_cons (pv 0) (pa_cons pe_int pa_nil))) pe_int (nomark _)))))
      (pss_cons (ps_set (i := 5) sc_law_plan.nd rfl (.inl rfl) (pe_slice (r := rSlL K) sl_list (pe_lst (pa_cons pe_str (pa_cons pe_str (pa_cons pe_str pa_nil)))) po_none (po_some (pe_ifExp (pt_val (pv 4)) pe_int (pe_op op_add pe_int (pe_cal c_law_dig hr (by decide) rfl (pa_cons (pv 0) (pa_cons pe_int pa_nil))))))))
      (pss_cons (ps_set (i := 6) sc_law_plan.nd rfl (.inl rfl) (pe_lst pa_nil))
      (pss_cons (ps_for PassesOwn.never rfl (pi_list (pv 5)) (pg_name (i := 7) sc_law_plan.nd rfl (.inl rfl)) (pss_cons (ps_set (i := 8) sc_law_plan.nd rfl (.inl rfl) (pe_callTy (r := rTupOf K) call_tuple_of (by rfl) B.tuple_ (by decide +kernel) (pa_cons (pe_lc (own := [("_law_scale", 11)]) (g := gName 11) rfl sc_law_plan.nd (pi_tup (pv 3)) (blkOk_by (N := ["_law_jar_here", "_law_most_worth", "_law_most_count", "_law_scales", "_law_three", "_law_labels", "_law_sorts", "_law_label", "_law_worths", "_law_folk", "_law_refused", "_law_scale", "_law_own"]) (sc := defScope s_law_plan) (by decide +kernel)) (fun _ _ _ _ _ => (pg_name (i := 11) sc_law_plan.nd rfl (.inl rfl))) (fun _ _ _ _ _ => pts_nil) (fun _ _ _ _ _ => (pe_cal c_law_dig hr (by decide) rfl (pa_cons (pv 0) (pa_cons (pe_op op_add (pv 1) pe_int) pa_nil))))) pa_nil)))
      (pss_one (ps_expr (pe_bm PySem.F.plainAttrs_list PySem.F.slot_list_append PySem.F.type_list_append mt_append (pv 6) (pa_cons (pe_tup (pa_cons (pv 7) (pa_cons (pe_op op_add pe_int (pe_cal c_law_dig hr (by decide) rfl (pa_cons (pv 0) (pa_cons (pv 2) pa_nil)))) (pa_cons (pv 8) pa_nil)))) pa_nil))))))
      (pss_cons (ps_set (i := 9) sc_law_plan.nd rfl (.inl rfl) (pe_lst pa_nil))
      (pss_cons (ps_for PassesOwn.never rfl (pi_list (pe_slice (r := rSlL K) sl_list (pe_lst (pa_cons pe_str (pa_cons pe_str (pa_cons pe_str pa_nil)))) po_none (po_some (pe_ifExp (pt_val (pv 4)) pe_int pe_int)))) (pg_name (i := 7) sc_law_plan.nd rfl (.inl rfl)) (pss_cons (ps_set (i := 10) sc_law_plan.nd rfl (.inl rfl) (pe_callTy (r := rTupOf K) call_tuple_of (by rfl) B.tuple_ (by decide +kernel) (pa_cons (pe_lc (own := [("_law_own", 12)]) (g := gName 12) rfl sc_law_plan.nd (pi_list (pv 5)) (blkOk_by (N := ["_law_jar_here", "_law_most_worth", "_law_most_count", "_law_scales", "_law_three", "_law_labels", "_law_sorts", "_law_label", "_law_worths", "_law_folk", "_law_refused", "_law_scale", "_law_own"]) (sc := defScope s_law_plan) (by decide +kernel)) (fun _ _ _ _ _ => (pg_name (i := 12) sc_law_plan.nd rfl (.inl rfl))) (fun _ _ _ _ _ => pts_one (pt_cmpR op_eq (pe_cal c_law_dig hr (by decide) rfl (pa_cons (pv 0) (pa_cons pe_int pa_nil))) pe_int (nomark _))) (fun _ _ _ _ _ => (pv 12))) pa_nil)))
      (pss_one (ps_expr (pe_bm PySem.F.plainAttrs_list PySem.F.slot_list_append PySem.F.type_list_append mt_append (pv 9) (pa_cons (pe_tup (pa_cons (pv 7) (pa_cons (pe_op op_add pe_int (pe_op op_fdiv (pe_cal c_law_dig hr (by decide) rfl (pa_cons (pv 0) (pa_cons pe_int pa_nil))) pe_int)) (pa_cons (pv 10) pa_nil)))) pa_nil))))))
      (pss_one (ps_ret (pe_tup (pa_cons (pv 3) (pa_cons (pe_callTy (r := rTupOf K) call_tuple_of (by rfl) B.tuple_ (by decide +kernel) (pa_cons (pv 6) pa_nil)) (pa_cons (pe_callTy (r := rTupOf K) call_tuple_of (by rfl) B.tuple_ (by decide +kernel) (pa_cons (pv 9) pa_nil)) pa_nil))))))))))))), ?_⟩
    walk_at "rd"
    refine ⟨by decide, fun t1 n1 => ⟨by decide, fun t2 n2 => ⟨by decide, fun t3 n3 => ⟨by decide, fun l0 n4 => ?_⟩⟩⟩⟩
    have e1 : Ex H (upd H t1 (.tup [.str "weight"])) := .new n1
    have f1 := upd_same (H := H) (a := t1) (o := .tup [.str "weight"])
    generalize upd H t1 (.tup [.str "weight"]) = H1 at e1 f1 n2 n3 n4 ⊢
    have e2 : Ex H1 (upd H1 t2 (.tup [.str "number"])) := .new n2
    have f2 := upd_same (H := H1) (a := t2) (o := .tup [.str "number"])
    generalize upd H1 t2 (.tup [.str "number"]) = H2 at e2 f2 n3 n4 ⊢
    have e3 : Ex H2 (upd H2 t3 (.tup [.str "w", .str "p"])) := .new n3
    have f3 := upd_same (H := H2) (a := t3) (o := .tup [.str "w", .str "p"])
    generalize upd H2 t3 (.tup [.str "w", .str "p"]) = H3 at e3 f3 n4 ⊢
    have e4 : Ex H3 (upd H3 l0 (.lst [.ref t1, .ref t2, .ref t3])) := .new n4
    have f4 := upd_same (H := H3) (a := l0) (o := .lst [.ref t1, .ref t2, .ref t3])
    generalize upd H3 l0 (.lst [.ref t1, .ref t2, .ref t3]) = H4 at e4 f4 ⊢
    have E4 := e1.trans (e2.trans (e3.trans e4))
    have p4 := hp.ex E4
    have g1 := (e2.trans (e3.trans e4)).get f1
    have g2 := (e3.trans e4).get f2
    have g3 := e4.get f3
    have hall : ∀ v ∈ ([V.ref t1, .ref t2, .ref t3] : List V), ∃ (x : Addr) (ms : List Str), v = .ref x ∧ H4 x = some (.tup (ms.map V.str)) ∧ (1 ≤ ms.length ∧ ms.length ≤ 2) ∧ (∀ s ∈ ms, nameOk s = true) ∧ ms.Nodup := by
      intro v hv
      simp only [List.mem_cons, List.not_mem_nil, or_false] at hv
      rcases hv with rfl | rfl | rfl
      · exact ⟨t1, ["weight"], rfl, g1, by decide, by decide +kernel, by decide +kernel⟩
      · exact ⟨t2, ["number"], rfl, g2, by decide, by decide +kernel, by decide +kernel⟩
      · exact ⟨t3, ["w", "p"], rfl, g3, by decide, by decide +kernel, by decide +kernel⟩
    have hl0 : l0 ≠ a := fun z => by
      subst z
      obtain ⟨_, _, _, hz⟩ := hp.ex (e1.trans (e2.trans e3))
      rw [n4] at hz
      cases hz
    refine ⟨a, l0, _, rfl, p4, sqL f4, hl0, ⟨by simp, by simp⟩, fun v H5 hv g5 p5 => ?_⟩
    obtain ⟨tm, ms, rfl, hms, m1, m2, m3⟩ := hall v hv
    have hms5 := g5.tup hms
    have G5 : Gr (· = a) H H5 := E4.of.trans g5
    clear hall hv g1 g2 g3 f1 f2 f3 f4 e1 e2 e3 e4 n1 n2 n3 n4 E4 p4
    refine ⟨tm, _, rfl, .inr (sqT hms5), rfl, ?_⟩
    rw [List.length_map]
    apply use_key (fun (b3 : Bool) (H6 : Hp) => Gr (· = a) H5 H6 ∧ Pool H6 a ∧ (b3 = true → ms.length = 1))
    · intro key
      by_cases h1 : ms.length = 1
      · rw [decide_eq_true (show V.int (ms.length : Int) = .int 1 by rw [h1]; rfl)]
        refine iteT ⟨a, 4, rfl, p5, by omega, by omega, fun r H6 hr6 g6 p6 => ⟨rfl, ?_⟩⟩
        generalize decide (V.int r = V.int 0) = b3
        exact key b3 H6 ⟨g6, p6, fun _ => h1⟩
      · rw [decide_eq_false (show ¬ V.int (ms.length : Int) = .int 1 by
          intro z
          injection z with z
          omega)]
        exact iteF (key false H5 ⟨.refl, p5, fun z => by cases z⟩)
    · intro b3 H6 ⟨g6, p6, hb3⟩
      refine ⟨by decide, fun p0 n0 => ?_⟩
      have e7 : Ex H6 (upd H6 p0 (.lst [V.str "plum", .str "fig", .str "kind"])) := .new n0
      have f7 : (upd H6 p0 (.lst [V.str "plum", .str "fig", .str "kind"])) p0 = some (.lst (namesJ.map V.str)) := upd_same
      have hp0 : p0 ≠ a := p6.get n0
      generalize upd H6 p0 (.lst [V.str "plum", .str "fig", .str "kind"]) = H7 at e7 f7 ⊢
      have g7 : Gr (· = a) H5 H7 := g6.trans e7.of
      have p7 := p6.ex e7
      apply use_key (fun (l : Addr) (H8 : Hp) => ∃ ls : List Str, Gr (· = a) H5 H8 ∧ Pool H8 a ∧ H8 l = some (.lst (ls.map V.str)) ∧ l ≠ a ∧ (1 ≤ ls.length ∧ ls.length ≤ 3) ∧ ls.Sublist namesJ)
      · intro key
        by_cases hb : b3 = true
        · rw [if_pos hb]
          refine ⟨p0, _, rfl, sqL f7, fun l hl => ?_⟩
          have e8 : Ex H7 (upd H7 l (.lst (cutV (namesJ.map V.str) none (some 2)))) := .new hl
          have f8 := upd_same (H := H7) (a := l) (o := .lst (cutV (namesJ.map V.str) none (some 2)))
          rw [show cutV (namesJ.map V.str) none (some 2) = (namesJ.map V.str).take 2 from cut_take 2, ← List.map_take] at f8 e8 ⊢
          have p8 := p7.ex e8
          have hla : l ≠ a := p7.get hl
          generalize upd H7 l (.lst ((namesJ.take 2).map V.str)) = H8 at e8 f8 p8 ⊢
          exact key l H8 ⟨namesJ.take 2, g7.trans e8.of, p8, f8, hla, by decide, List.take_sublist ..⟩
        · rw [if_neg hb]
          refine ⟨a, 3, rfl, p7, by omega, by omega, fun r H8 hr8 g8 p8 => ⟨r, rfl, p0, _, rfl, g8.seqL (sqL f7) hp0, fun l hl => ?_⟩⟩
          obtain ⟨m, hm, hm1, hm3⟩ : ∃ m : Nat, 1 + r = (m : Int) ∧ 1 ≤ m ∧ m ≤ 3 := ⟨(1 + r).toNat, by omega, by omega, by omega⟩
          have hlm : (namesJ.take m).length = m := by
            rw [List.length_take]
            exact Nat.min_eq_left hm3
          rw [hm, cut_take, ← List.map_take]
          have e9 : Ex H8 (upd H8 l (.lst ((namesJ.take m).map V.str))) := .new hl
          have f9 := upd_same (H := H8) (a := l) (o := .lst ((namesJ.take m).map V.str))
          have hla : l ≠ a := p8.get hl
          have p9 := p8.ex e9
          generalize upd H8 l (.lst ((namesJ.take m).map V.str)) = H9 at e9 f9 p9 ⊢
          exact key l H9 ⟨namesJ.take m, (g7.trans g8).trans e9.of, p9, f9, hla, by omega, List.take_sublist ..⟩
      · clear g7 p7 e7 f7 n0
        rintro l H8 ⟨ls, g8, p8, fl, hla, hls, hsub⟩
        have hms8 := g8.tup hms5
        have lsok : ∀ z ∈ ls, nameOk z = true := fun z hz => namesJ_ok z (hsub.subset hz)
        have lsnd : ls.Nodup := hsub.nodup namesJ_nd
        refine ⟨by decide, fun g ng => ?_⟩
        have hga : ¬ g = a := p8.get ng
        have hlg : l ≠ g := lst_neJ fl ng
        have L0 : LayJ K H8 (upd H8 g (.lst [])) a l g ls [] := ⟨.new ng, p8.newN ng, hla, hga, hlg, ng, by rw [upd_ne hlg]; exact fl, ⟨[], upd_same, .nil⟩⟩
        refine forLs (a := l) (xs := ls.map V.str) (fun R h => ⟨_, rfl, h⟩) (sqL L0.ll) (fun i σ' H' => ∃ (ks : List Kd) (y7 y8 : Option V), σ' = [some (.ref a), some (.int W), some (.int M), some (.ref tm), some (.bl b3), some (.ref l), some (.ref g), y7, y8, none, none, none, none] ∧ LayJ K H8 H' a l g ls (ks.map Kd.d) ∧ ks.map Kd.n = ls.take i ∧ ∀ k ∈ ks, Kd.ok ms.length k)
          ⟨[], _, _, rfl, L0, rfl, fun k hk => by cases hk⟩ (fun i σ' H' p => by
            obtain ⟨_, _, _, _, L, _⟩ := p
            exact sqL L.ll) ?_ ?_
        · rintro i x σ' H' hx ⟨ks, y7, y8, rfl, L, hkn, hkok⟩
          rw [List.getElem?_map] at hx
          obtain ⟨z, hz, rfl⟩ := Option.map_eq_some_iff.mp hx
          have hzok := lsok z (List.mem_of_getElem? hz)
          walk_at "rd"
          have hmsL := L.gr.tup hms8
          refine lcT (a := tm) (xs := ms.map V.str) (fun R h => ⟨_, rfl, h⟩) (sqT hmsL) (by rw [List.length_map]; omega) (· = a) (fun H' => Pool H' a) (fun i y _ => ∃ n : Int, y = .int n ∧ 0 ≤ n ∧ n ≤ 6)
            (fun b e z => L.po.get z e) L.po (fun H' D o hD e p => p.new (L.po.get hD)) (fun _ _ _ _ q _ => q) ?_ ?_
          · intro j x H9 Q' hx e p q'
            walk_at "rd"
            exact ⟨a, W + 1, rfl, p, by omega, by omega, fun r H10 hr e10 p10 => q' _ H10 e10 p10 ⟨r, rfl, hr.1, by omega⟩⟩
          · intro D2 ys H9 hD2 e9 p9 h9 hl9 hR9
            obtain ⟨ws, rfl, hws⟩ := intsJ hR9
            rw [List.length_map, List.length_map] at hl9
            refine ⟨D2, _, rfl, .inl ⟨sqL h9, fun T hT => ?_⟩⟩
            walk_at "rd"
            have L9 := (L.mono e9 p9).new (o := .tup (ws.map V.int)) hT
            obtain ⟨gx9, gl9, _⟩ := L9.lx
            refine ⟨.inl ⟨rfl, _, sqL gl9⟩, a, M, rfl, L9.po, by omega, by omega, fun r H10 hr10 g10 p10 => ⟨r, rfl, by decide, fun p hp => ?_⟩⟩
            have T10 := g10.tup (upd_same (H := H9) (a := T) (o := .tup (ws.map V.int)))
            have L10 := (L9.mono g10 p10).new (o := .tup [.str z, .int (1 + r), .ref T]) hp
            obtain ⟨xs, l1, l2⟩ := L10.lx
            have hxl := l2.len
            rw [List.length_map] at hxl
            have hkl : ks.length ≤ 3 := by
              have := congrArg List.length hkn
              rw [List.length_map, List.length_take] at this
              omega
            have hpT : T ≠ p := lst_neJ T10 hp
            refine ⟨g, _, _, rfl, rfl, l1, smallt (by omega), ?_⟩
            walk_at "rd"
            refine ⟨ks ++ [⟨z, 1 + r, ws⟩], _, _, ⟨rfl, rfl⟩, ?_, ?_, ?_⟩
            · rw [List.map_append]
              exact L10.push l1 l2 (.tup (sqT upd_same) (.cons (.str _) (.cons (.int _) (.cons (.tup (sqT (by rw [upd_ne hpT]; exact T10)) (DTs.ofInts _)) .nil))))
            · rw [List.map_append, hkn, List.take_add_one, hz]
              rfl
            · intro k hk
              rcases List.mem_append.mp hk with hk | hk
              · exact hkok k hk
              · rw [List.mem_singleton.mp hk]
                exact ⟨hzok, ⟨by show 1 ≤ 1 + r; omega, by show 1 + r ≤ 3; omega⟩, hl9, hws⟩
        · rintro σ' H' ⟨ks, y7, y8, rfl, L, hkn, hkok⟩
          rw [List.length_map, List.take_length] at hkn
          walk_at "rd"
          obtain ⟨gx, gl, gd⟩ := L.lx
          have hkl : ks.length = ls.length := by rw [← hkn, List.length_map]
          refine ⟨by decide, fun c nc => ?_⟩
          have hca : ¬ c = a := L.po.get nc
          have hlc : l ≠ c := lst_neJ L.ll nc
          have M0 : LayJ K H' (upd H' c (.lst [])) a l c ls [] := ⟨.new nc, L.po.newN nc, hla, hca, hlc, nc, by rw [upd_ne hlc]; exact L.ll, ⟨[], upd_same, .nil⟩⟩
          generalize upd H' c (.lst []) = HB at M0 ⊢
          refine forLj (fun p xs H1 => LayJ K H' H1 a l c ls [] ∧ H1 p = some (.lst xs) ∧ p ≠ a ∧ p ≠ c ∧ xs = (folkJ.take (if b3 = true then 3 else 2)).map V.str) (fun R h => ?_) (fun p xs H1 q => sqL q.2.1)
            (fun p xs i σ' H1 => ∃ (ps : List Pn) (y7 y8 y10 : Option V), σ' = [some (.ref a), some (.int W), some (.int M), some (.ref tm), some (.bl b3), some (.ref l), some (.ref g), y7, y8, some (.ref c), y10, none, none] ∧ LayJ K H' H1 a l c ls (ps.map Pn.d) ∧ H1 p = some (.lst xs) ∧ p ≠ a ∧ p ≠ c ∧ xs = (folkJ.take (if b3 = true then 3 else 2)).map V.str ∧ ps.map Pn.n = (folkJ.take (if b3 = true then 3 else 2)).take i ∧ ∀ q ∈ ps, Pn.ok (ks.map Kd.n) q)
            (fun p xs H1 q => ⟨[], _, _, _, rfl, q.1, q.2.1, q.2.2.1, q.2.2.2.1, q.2.2.2.2, rfl, fun z hz => by cases hz⟩) (fun p xs i σ' H1 q => by
              obtain ⟨_, _, _, _, _, _, q, _⟩ := q
              exact sqL q) ?_ ?_
          · walk_at "rd"
            refine ⟨by decide, fun p1 n1 => ?_⟩
            have hc1 : p1 ≠ c := by
              obtain ⟨_, q1, _⟩ := M0.lx
              exact (lst_neJ q1 n1).symm
            have M1 := M0.new (o := .lst [V.str "ann", .str "person", .str "c3"]) n1
            have f1 : (upd HB p1 (.lst [V.str "ann", .str "person", .str "c3"])) p1 = some (.lst (folkJ.map V.str)) := upd_same
            generalize upd HB p1 (.lst [V.str "ann", .str "person", .str "c3"]) = HC at M1 f1 ⊢
            have two : ∀ n : Nat, (if b3 = true then 3 else 2) = n → rSlL K (.ref p1) none (some (n : Int)) HC R := fun n hn => by
              refine ⟨p1, _, rfl, sqL f1, fun p2 n2 => ?_⟩
              rw [cut_take, ← List.map_take]
              refine h p2 _ _ ⟨M1.new n2, upd_same, M1.po.get n2, ?_, by rw [hn]⟩
              obtain ⟨_, q1, _⟩ := M1.lx
              exact (lst_neJ q1 n2).symm
            cases b3 with
            | true => exact two 3 rfl
            | false => exact two 2 rfl
          · rintro p xs i x σ' H1 hx ⟨ps, y7, y8, y10, rfl, M1, f1, hpa, hpc, hxs, hpn, hpok⟩
            rw [hxs, List.getElem?_map] at hx
            obtain ⟨z, hz, rfl⟩ := Option.map_eq_some_iff.mp hx
            have hzok := folkJ_ok z (List.mem_of_mem_take (List.mem_of_getElem? hz))
            walk_at "rd"
            refine lcFd (a := l) (xs := ls.map V.str) (fun R h => ⟨_, rfl, h⟩) (sqL M1.ll) (by rw [List.length_map]; omega) (by simp) (· = a) hla (fun H' => Pool H' a)
              (fun b e z => M1.po.get z e) M1.po (fun H' D o hD e p => p.new (M1.po.get hD)) ?_ ?_
            · intro x H2 F hx2 e2 p2 q'
              walk_at "rd"
              exact ⟨a, 6, rfl, p2, by omega, by omega, fun r H3 hr3 e3 p3 => ⟨rfl, q' _ H3 e3 p3⟩⟩
            · intro D2 r H2 hD2 e2 p2 hr2 h2
              obtain ⟨rs, rfl, hrs⟩ := sub_strsJ hr2
              have M2 := M1.mono e2 p2
              have f2 := e2.at f1 hpa
              refine ⟨D2, _, rfl, .inl ⟨sqL h2, fun T hT => ?_⟩⟩
              walk_at "rd"
              have hpT : p ≠ T := lst_neJ f2 hT
              have M3 := M2.new (o := .tup (rs.map V.str)) hT
              have f3 : (upd H2 T (.tup (rs.map V.str))) p = some (.lst xs) := by rw [upd_ne hpT]; exact f2
              obtain ⟨cx3, cl3, _⟩ := M3.lx
              refine ⟨.inl ⟨rfl, _, sqL cl3⟩, a, 4, rfl, M3.po, by omega, by omega, fun d H4 hd4 g4 p4 => ⟨d, rfl, ⟨by omega, by omega⟩, by decide, fun t ht => ?_⟩⟩
              have T4 := g4.tup (upd_same (H := H2) (a := T) (o := .tup (rs.map V.str)))
              have f4 := g4.at f3 hpa
              have hpt : p ≠ t := lst_neJ f4 ht
              have hTt : T ≠ t := lst_neJ T4 ht
              have M5 := (M3.mono g4 p4).new (o := .tup [.str z, .int (1 + d / 2), .ref T]) ht
              obtain ⟨cx, c1, c2⟩ := M5.lx
              have hcl := c2.len
              rw [List.length_map] at hcl
              have hpl : ps.length ≤ 3 := by
                have := congrArg List.length hpn
                rw [List.length_map, List.length_take, List.length_take] at this
                have h3 : folkJ.length = 3 := rfl
                omega
              refine ⟨c, _, _, rfl, rfl, c1, smallt (by omega), ?_⟩
              walk_at "rd"
              refine ⟨ps ++ [⟨z, 1 + d / 2, rs⟩], _, _, _, ⟨rfl, rfl, rfl⟩, ?_, ?_, hpa, hpc, hxs, ?_, ?_⟩
              · rw [List.map_append]
                exact M5.push c1 c2 (.tup (sqT upd_same) (.cons (.str _) (.cons (.int _) (.cons (.tup (sqT (by rw [upd_ne hTt]; exact T4)) (DTs.ofStrs _)) .nil))))
              · rw [upd_ne hpc, upd_ne hpt]
                exact f4
              · rw [List.map_append, hpn, List.take_add_one, hz]
                rfl
              · intro k hk
                rcases List.mem_append.mp hk with hk | hk
                · exact hpok k hk
                · rw [List.mem_singleton.mp hk]
                  exact ⟨hzok, ⟨by show 1 ≤ 1 + d / 2; omega, by show 1 + d / 2 ≤ 3; omega⟩, by rw [hkn]; exact sub_filterJ hrs lsnd⟩
          · rintro p xs σ' H1 ⟨ps, y7, y8, y10, rfl, M1, f1, hpa, hpc, hxs, hpn, hpok⟩
            rw [hxs, List.length_map, List.take_length] at hpn
            walk_at "rd"
            have tm1 := M1.gr.tup (L.gr.tup hms8)
            have g1 := M1.gr.at gl hga
            have d1 := gd.mono M1.gr.any
            obtain ⟨cx, c1, c2⟩ := M1.lx
            refine ⟨g, _, rfl, .inl ⟨sqL g1, fun A1 hA1 => ?_⟩⟩
            have e1 : Ex H1 (upd H1 A1 (.tup gx)) := .new hA1
            refine ⟨c, _, rfl, .inl ⟨sqL (e1.get c1), fun A2 hA2 => ⟨by decide, fun x hx => ?_⟩⟩⟩
            have e2 : Ex (upd H1 A1 (.tup gx)) (upd (upd H1 A1 (.tup gx)) A2 (.tup cx)) := .new hA2
            have e3 : Ex (upd (upd H1 A1 (.tup gx)) A2 (.tup cx)) (upd (upd (upd H1 A1 (.tup gx)) A2 (.tup cx)) x (.tup [.ref tm, .ref A1, .ref A2])) := .new hx
            have E3 := e1.trans (e2.trans e3)
            refine q x ⟨ms, ks, ps⟩ _ ⟨tm, A1, A2, sqT upd_same, sqT (E3.get tm1), ⟨gx, sqT ((e2.trans e3).get upd_same), d1.mono E3.any⟩, ⟨cx, sqT (e3.get upd_same), c2.mono E3.any⟩, ?_⟩ (((G5.trans g8).trans L.gr).trans (M1.gr.trans E3.of)) (M1.po.ex E3)
            have hpl : ps.length = if b3 = true then 3 else 2 := by
              have h3 := congrArg List.length hpn
              rw [List.length_map, List.length_take] at h3
              have h4 : folkJ.length = 3 := rfl
              rw [h4] at h3
              by_cases hb : b3 = true
              · rw [if_pos hb] at h3 ⊢
                omega
              · rw [if_neg hb] at h3 ⊢
                omega
            refine ⟨m1, m2, m3, ⟨by show 1 ≤ ks.length; omega, by show ks.length ≤ 4; omega⟩, hkok, by show (ks.map Kd.n).Nodup; rw [hkn]; exact lsnd, ⟨?_, ?_⟩, ?_, hpok, ?_⟩
            · show 2 ≤ ps.length
              split at hpl <;> omega
            · show ps.length ≤ 3
              split at hpl <;> omega
            · intro hm2
              show ps.length = 2
              have hm2' : ms.length = 2 := hm2
              split at hpl
              · rename_i hb
                have := hb3 hb
                omega
              · exact hpl
            · show (ps.map Pn.n).Nodup
              rw [hpn]
              exact (List.take_sublist ..).nodup folkJ_nd
abbrev s_law_order : Stmt := topS 113
theorem sc_law_order : FnScope ["_law_plan_here"] ["_law_plan_here"] (defScope s_law_order) := ⟨rfl, rfl, rfl, by decide +kernel, rfl, by decide +kernel, by decide +kernel⟩
def spOrder (K : PySem.W.Frag) (C : Addr) : Sp := fun vs H Q _ => ∃ x o, vs = [.ref x] ∧ TupAt K H x o ∧ ∀ y H', Ex H H' → H y = none → OrdAt K C H' y o → Q (.ref y) H'
theorem ok_law_order (m_Order : Mkr P w K mg base 6 "Order" C ["self", "measures", "kinds", "people"] (spInitO K C)) (D0 : Df K mg "_law_order" s_law_order) : Cal P w K mg base 8 "_law_order" ["_law_plan_here"] (spOrder K C) := by
  refine D0.cal sc_law_order (fun _ _ _ _ _ _ us hl => match us, hl with | [_], _ => rfl) (fun vs H Q E h => ?_) (fun f cdv A outer s H vs Q E hr h => ?_)
  · obtain ⟨x, o, rfl, _⟩ := h
    rfl
  · obtain ⟨x, o, rfl, ⟨a, b, c, hx, hP⟩, q⟩ := h
    refine ⟨_, (pss_one (ps_ret (pe_mk m_Order hr (by decide) rfl (pa_cons (pe_ix (r := rIxT K) ix_tup (pv 0) pe_int (fun _ _ => rfl)) (pa_cons (pe_ix (r := rIxT K) ix_tup (pv 0) pe_int (fun _ _ => rfl)) (pa_cons (pe_ix (r := rIxT K) ix_tup (pv 0) pe_int (fun _ _ => rfl)) pa_nil)))))), ?_⟩
    unfold tMake
    walk_at "rd"
    refine ⟨x, _, 0, _, rfl, rfl, hx, atI_nat (j := 0) rfl, x, _, 1, _, rfl, rfl, hx, atI_nat (j := 1) rfl, x, _, 2, _, rfl, rfl, hx, atI_nat (j := 2) rfl, fun y dx hy hd hne => ?_⟩
    have e1 : Ex H (upd H dx (.own y)) := .new hd
    have e2 : Ex (upd H dx (.own y)) (upd (upd H dx (.own y)) y (.ins C dx [])) := .new (by rw [upd_ne hne.symm]; exact hy)
    have hP2 := hP.mono (e1.trans e2).any
    exact ⟨y, dx, a, b, c, o, rfl, upd_same, hP2, fun H' g h => ⟨rfl, q y H' (Gr.freshJ (e1.trans e2) hy g) hy ⟨dx, a, b, c, h, hP2.mono g.any⟩⟩⟩
end
end K11

namespace K11
open PySem PySem.Spec PyProof.Rows L2 Z ZE LamX
local macro_rules | `(tactic| walk_at "rd") => `(tactic| try simp only [cxOf, tSeq, tIfS, tRet, tRetN, tAsg, tDrop, tNext, tBreak, tCont, tNever, tPar, tPar3, tAug, gName, gTup, gCons, gNil, gSub, tVar, tC, tOp, tUn, tCB, tBM, tBM0, tCons, tNil, tTest, tB, tAnd, tOr, tNot, tAndV, tOrV, tNotV, tIf, tChain,
  tTup, tLst, tCall, tMeth, tSl, tPart, tNoPart, tM1, tFmt, tJs_nil, tJs_cons, tCKw, rI0, rI, rU, rEq, rNe, scal_ii, scal_ss, scal_bb, ipI, iStr, iTup, iList, iRng1, sFld, tFld, L2.start, List.getElem?_cons_zero, List.getElem?_cons_succ, List.set_cons_zero, List.set_cons_succ, Option.some.injEq, V.int.injEq, V.bl.injEq, V.str.injEq, V.ref.injEq,
  List.cons.injEq, exists_and_left, exists_eq_left', exists_eq_left, exists_eq_right, exists_eq_right', exists_eq', exists_eq, and_true, true_and, and_self, List.map_cons, List.map_nil, List.length_cons, List.length_nil, List.replicate_succ, List.replicate_zero, List.cons_append, List.nil_append, List.append_nil,
  Nat.add_sub_cancel, Nat.reduceAdd, Nat.reduceSub, if_true, if_false, ite_true, ite_false, Bool.not_true, Bool.not_false, Bool.true_eq_false, Bool.false_eq_true, reduceIte, reduceCtorEq, false_and, exists_false, or_false, false_or, decide_true, decide_false, wipe])

section
variable {P : Program} {w : World} {K : PySem.W.Frag} {mg : Str → Option Value} {base : Heap} {C : Addr}
/-- no type of the language is below the class -/
structure NoC (K : PySem.W.Frag) (C : Addr) : Prop where
  all : ∀ t ∈ ["NoneType", "int", "bool", "str", "tuple", "list", "dict"], PySem.W.kitOne K (.type t) (.ref C) = some false
abbrev s_law_right : Stmt := topS 119
theorem sc_law_right : FnScope ["_law_jar_here", "_law_bad", "_law_act", "_law_deal", "_law_odd_here"] ["_law_jar_here"] (defScope s_law_right) := ⟨rfl, rfl, rfl, by decide +kernel, rfl, by decide +kernel, by decide +kernel⟩
def spRight (T : List (Addr × Str)) : Sp := fun vs H Q _ => ∃ a, vs = [.ref a] ∧ Pool H a ∧ Tabs T H ∧ ∀ H', Gx (· = a) H H' → Tabs T H' → Q (.bl true) H'
theorem ok_law_right {CN CI c Pt : Addr} {T : List (Addr × Str)} (hCN : CN = He.ga K "NotAnOrder") (hCI : CI = He.ga K "InvalidNumber") (B : Bl mg) (NO : NoC K C) (cau : CauD P w K mg base) (tb : TabB base mg c Pt) (hmT : (Pt, ("_law_right.<locals>.<lambda>" : Str)) ∈ T) (hu : ∀ p ∈ T, p.1 = Pt → p.2 = ("_law_right.<locals>.<lambda>" : Str))
    (c_law_plan : Cal P w K mg base 3 "_law_plan" ["_law_jar_here", "_law_most_worth", "_law_most_count"] (spPlan K)) (c_law_order : Cal P w K mg base 8 "_law_order" ["_law_plan_here"] (spOrder K C)) (c_law_odd : Cal P w K mg base 3 "_law_odd" ["_law_jar_here"] (spOddJ K)) (c_law_no_number : Cal P w K mg base 3 "_law_no_number" ["_law_jar_here"] (spNoNum K))
    (c_law_asked : CalG P w K mg base 11 "_law_asked" ["_law_act", "_law_thing", "_law_n"] (spAsk K C T)) (kc_is_sharing : CalK P w K mg base 4 "is_sharing" ["order", "boxes", "sharing"] ["sharing", "boxes", "order"] (spIsS K C CN CI) (fun zs => zs.reverse)) (kc_possible : CalK P w K mg base 4 "possible" ["order"] ["order"] (spNo1 K C CN) (fun zs => zs))
    (kc_used : CalK P w K mg base 4 "used" ["order"] ["order"] (spNo1 K C CN) (fun zs => zs)) (D0 : DfT K mg "_law_right" s_law_right c) : CalG P w K mg base 12 "_law_right" ["_law_jar_here"] (spRight T) := by
  refine D0.calG sc_law_right (fun _ _ _ _ _ _ us hl => match us, hl with | [_], _ => rfl) (fun vs H Q E h => ?_) (fun f A outer s H vs Q E hgd hr h => ?_)
  · obtain ⟨a, rfl, _⟩ := h
    rfl
  · obtain ⟨a, rfl, hp, tT, q⟩ := h
    refine ⟨_, (pss_cons (ps_set (i := 3) sc_law_right.nd rfl (.inr rfl) (pe_cal c_law_order hr (by decide) rfl (pa_cons (pe_cal c_law_plan hr (by decide) rfl (pa_cons (pv 0) (pa_cons pe_int (pa_cons pe_int pa_nil)))) pa_nil)))
      (pss_cons (ps_asg (pe_tup (pa_cons (pe_cal c_law_odd hr (by decide) rfl (pa_cons (pv 0) pa_nil)) (pa_cons (pe_cal c_law_no_number hr (by decide) rfl (pa_cons (pv 0) pa_nil)) pa_nil))) (pg_tup rfl (pgs_cons (pg_name (i := 4) sc_law_right.nd rfl (.inr rfl)) (pgs_cons (pg_name (i := 1) sc_law_right.nd rfl (.inl rfl)) pgs_nil))))
      (pss_cons (ps_for PassesOwn.never rfl (pi_range1 rfl B.range_ (pa_cons pe_int pa_nil)) (pg_name (i := 2) sc_law_right.nd rfl (.inl rfl)) (pss_one (ps_if (PW.pt (pw_or (pt_cmpR (r := rTX K true) (op_neTX hr.units) (pe_calG c_law_asked hgd hr (by decide) rfl (pa_cons (pv 2) (pa_cons (pv 4) (pa_cons (pv 1) pa_nil)))) (pe_tup (pa_cons pe_str (pa_cons (pv 4) pa_nil))) (nomark _)) (pw_or1 (pt_cmpR (r := rTX K true) (op_neTX hr.units) (pe_calG c_law_asked hgd hr (by decide) rfl (pa_cons (pv 2) (pa_cons (pv 3) (pa_cons (pv 1) pa_nil)))) (pe_tup (pa_cons pe_str (pa_cons (pv 1) pa_nil))) (nomark _))))) (pss_one (ps_ret pe_bl)) pss_nil)))
      (pss_cons (ps_if (pt_cmpR (r := rTX K true) (op_neTX hr.units) (pe_cau (k := 4) cau hgd tb rfl hmT hu hr (by decide) (lamS_by (by rfl)) rfl (fun _ _ _ _ _ => rfl) (fun A outer s H E f c' hgd hr => (pe_calKX (passX (takes_of rfl rfl rfl rfl)) kc_possible hr (by decide) rfl (pk_cons (pv 4) pk_nil)))) (pe_tup (pa_cons pe_str (pa_cons (pv 4) pa_nil))) (nomark _)) (pss_one (ps_ret pe_bl)) pss_nil)
      (pss_cons (ps_if (pt_cmpR (r := rTX K true) (op_neTX hr.units) (pe_cau (k := 4) cau hgd tb rfl hmT hu hr (by decide) (lamS_by (by rfl)) rfl (fun _ _ _ _ _ => rfl) (fun A outer s H E f c' hgd hr => (pe_calKX (passX (takes_of rfl rfl rfl rfl)) kc_used hr (by decide) rfl (pk_cons (pv 4) pk_nil)))) (pe_tup (pa_cons pe_str (pa_cons (pv 4) pa_nil))) (nomark _)) (pss_one (ps_ret pe_bl)) pss_nil)
      (pss_cons (ps_if (pt_cmpR (r := rTX K true) (op_neTX hr.units) (pe_calG c_law_asked hgd hr (by decide) rfl (pa_cons pe_int (pa_cons (pv 3) (pa_cons pe_int pa_nil)))) (pe_tup (pa_cons pe_str (pa_cons pe_int pa_nil))) (nomark _)) (pss_one (ps_ret pe_bl)) pss_nil)
      (pss_one (ps_ret (pe_cmpR (r := rTX K false) (op_eqTX hr.units) (pe_cau (k := 4) cau hgd tb rfl hmT hu hr (by decide) (lamS_by (by rfl)) rfl (fun _ _ _ _ _ => rfl) (fun A outer s H E f c' hgd hr => (pe_calKX (passX (takes_of rfl rfl rfl rfl)) kc_is_sharing hr (by decide) rfl (pk_cons pe_non (pk_cons pe_int (pk_cons (pv 3) pk_nil)))))) (pe_tup (pa_cons pe_str (pa_cons pe_bl pa_nil))) (nomark _)))))))))), ?_⟩
    walk_at "rd"
    refine ⟨a, 3, 2, rfl, hp, by decide, by decide, fun x o H1 t1 g1 p1 => ?_⟩
    refine ⟨x, o, rfl, t1, fun y H2 e2 hy O2 => ?_⟩
    refine ⟨a, rfl, p1.ex e2, fun od H3 g3 p3 pl3 => ?_⟩
    refine ⟨a, rfl, p3, fun bd H4 g4 p4 pl4 => ?_⟩
    refine ⟨by decide, fun pt npt => ⟨_, sqT upd_same, rfl, _, _, rfl, _, _, rfl, rfl, ?_⟩⟩
    have e5 : Ex H4 (upd H4 pt (.tup [od, bd])) := .new npt
    have O4 : IsO K C (upd H4 pt (.tup [od, bd])) (.ref y) := ((O2.isO.up (p1.ex e2) g3).up p3 g4).gx e5.x
    have D4 : Pla K (upd H4 pt (.tup [od, bd])) od := (pl3.up p3 g4).ex e5
    have N4 : PlaN K (upd H4 pt (.tup [od, bd])) bd := pl4.ex e5
    have G4 : Gr (· = a) H (upd H4 pt (.tup [od, bd])) := (g1.trans e2.of).trans ((g3.trans g4).trans e5.of)
    generalize upd H4 pt (.tup [od, bd]) = HB at O4 D4 N4 G4 ⊢
    have TB := Tabs.gr tT G4
    have nO : ∀ H', Gx nob HB H' → NotO K C H' od := fun H' e => by
      obtain ⟨t, ht, hty⟩ := (D4.gx e).ty
      exact ⟨_, hty, NO.all t ht⟩
    have isO : ∀ H', Gx nob HB H' → IsO K C H' (.ref y) := fun H' e => O4.gx e
    have nN : ∀ H', Gx nob HB H' → ∃ d, DT K H' bd d ∧ d.isNum = false := fun H' e => (N4.gx e).dt
    have same2 : ∀ {t p : Addr} {n : Str} {v : V} {H' : Hp} {F1 F2 : Hp → Prop}, (flatV v = true ∨ ∃ a, v = .ref a) → PairAt H' t n v → H' p = some (.tup [.str n, v]) → F2 H' → rTX K true (.ref t) (.ref p) H' fun u H2 => ∃ k, u = V.bl k ∧ if k = true then F1 H2 else F2 H2 := fun hv h1 h2 q => ⟨_, _, _, _, [true, true], rfl, rfl, sqT h1, sqT h2, .cons (.same (.inl rfl)) (.cons (.same hv) .nil), _, rfl, iteF q⟩
    clear hp t1 g1 p1 e2 hy O2 g3 p3 pl3 g4 p4 pl4 npt e5 tT
    refine forR (n := 4) (fun R h => h) ⟨by omega, by omega⟩ (fun i σ' H' => ∃ y2, σ' = [some (.ref a), some bd, y2, some (.ref y), some od] ∧ Gx nob HB H' ∧ Tabs T H') ⟨_, rfl, .refl, TB⟩ ?_ ?_
    · rintro i σ' H' hi ⟨y2, rfl, e, T1⟩
      walk_at "rd"
      refine ⟨(i : Int), od, bd, "NotAnOrder", od, rfl, fun H2 e2 => .odd ⟨by omega, by omega⟩ (nO H2 (e.trans e2)), T1, fun t H2 e2 T2 h2 => ⟨by decide, fun p np => ?_⟩⟩
      have f3 := (Gr.new (m := nob) np (o := .tup [.str "NotAnOrder", od])).get h2
      have g3 : Gx nob HB (upd H2 p (.tup [.str "NotAnOrder", od])) := (e.trans e2).trans (Gr.new np).x
      refine same2 D4.fr f3 upd_same ?_
      have T3 : Tabs T (upd H2 p (.tup [.str "NotAnOrder", od])) := Tabs.gr T2 (Gr.new (m := nob) np)
      generalize upd H2 p (.tup [.str "NotAnOrder", od]) = H3 at g3 T3 ⊢
      refine ⟨(i : Int), .ref y, bd, "InvalidNumber", bd, rfl, fun H4 e4 => ?_, T3, fun t4 H4 e4 T4 h4 => ⟨by decide, fun p4 np4 => ?_⟩⟩
      · obtain ⟨d, hd, hn⟩ := nN H4 (g3.trans e4)
        exact .num ⟨by omega, by omega⟩ (isO H4 (g3.trans e4)) hd hn
      · exact same2 N4.1.fr ((Gr.new (m := nob) np4).get h4) upd_same ⟨(g3.trans e4).trans (Gr.new np4).x, Tabs.gr T4 (Gr.new (m := nob) np4)⟩
    · rintro σ' H' ⟨y2, rfl, e, T1⟩
      walk_at "rd"
      have ask1 : ∀ {H' : Hp} {R : Hp → Prop}, Gx nob HB H' → Tabs T H' → (∀ H2, Gx nob HB H2 → Tabs T H2 → R H2) → tLam T (TCau K) (fun E => tCallKw 1 (spNo1 K C CN) (fun zs => zs) E (tCons (tVar 4) tNil)) [some (.ref a), some bd, y2, some (.ref y), some od] H' fun x H1 =>
          2 ≤ sizeLine ∧ ∀ (p : Addr), H1 p = none → rTX K true x (.ref p) (upd H1 p (.tup [.str "NotAnOrder", od])) fun x H' => ∃ k, x = V.bl k ∧ if k = true then Q (.bl false) H' else R H' := fun {H' R} e T1 k => by
        refine ⟨T1, fun H1 e1 T2 => ?_⟩
        unfold TCau tCallKw
        walk_at "rd"
        subst hCN
        have g1 := e.trans (Gx.ext e1)
        exact ⟨od, rfl, nO H1 g1, raise_pair (i := 0) rfl rfl fun t H2 e2 h2 => ⟨by decide, fun p np => same2 D4.fr ((Gr.new (m := nob) np).get h2) upd_same (k _ ((g1.trans e2.x).trans (Gr.new np).x) (Tabs.gr T2 (e2.trans (.new np))))⟩⟩
      refine ask1 e T1 fun H2 e2 T2 => ask1 e2 T2 fun H3 e3 T3 => ?_
      refine ⟨1, .ref y, .int 13, "InvalidNumber", .int 13, rfl, fun H4 e4 => .tab (isO H4 (e3.trans e4)) (.int 13) (by decide), T3, fun t4 H4 e4 T4 h4 => ⟨by decide, fun p4 np4 => same2 (.inl rfl) ((Gr.new (m := nob) np4).get h4) upd_same ?_⟩⟩
      have g4 : Gx nob HB (upd H4 p4 (.tup [.str "InvalidNumber", .int 13])) := (e3.trans e4).trans (Gr.new np4).x
      have T5 : Tabs T (upd H4 p4 (.tup [.str "InvalidNumber", .int 13])) := Tabs.gr T4 (Gr.new (m := nob) np4)
      generalize upd H4 p4 (.tup [.str "InvalidNumber", .int 13]) = H5 at g4 T5 ⊢
      refine ⟨T5, fun H6 e6 T6 => ?_⟩
      unfold TCau tCallKw
      walk_at "rd"
      have g6 := g4.trans (Gx.ext e6)
      refine ⟨.ref y, .int 13, .non, rfl, .inr ⟨isO H6 g6, rfl, ⟨_, .int 13, by decide⟩, by decide, fun t7 n7 => ⟨by decide, fun p8 n8 => ?_⟩⟩⟩
      have f7 := upd_same (H := H6) (a := t7) (o := .tup [.str "let", .bl false])
      have e7 : Ex H6 (upd H6 t7 (.tup [.str "let", .bl false])) := .new n7
      generalize upd H6 t7 (.tup [.str "let", .bl false]) = H7 at f7 e7 n8 ⊢
      have e8 : Ex H7 (upd H7 p8 (.tup [.str "let", .bl false])) := .new n8
      exact ⟨_, _, _, _, [true, true], rfl, rfl, sqT (e8.get f7), sqT upd_same, .cons (.same (.inl rfl)) (.cons (.same (.inl rfl)) .nil), q _ (G4.x.trans (((g6.trans e7.x).trans e8.x)).of) (Tabs.gr T6 (e7.trans e8))⟩
end
end K11

namespace K11
open PySem PySem.Spec PyProof.Rows L2 Z ZE LamX
local macro_rules | `(tactic| walk_at "rd") => `(tactic| try simp only [cxOf, tSeq, tIfS, tRet, tRetN, tAsg, tDrop, tNext, tBreak, tCont, tNever, tPar, tPar3, tAug, gName, gTup, gCons, gNil, gSub, tVar, tC, tOp, tUn, tCB, tBM, tBM0, tCons, tNil, tTest, tB, tAnd, tOr, tNot, tAndV, tOrV, tNotV, tIf, tChain,
  tTup, tLst, tCall, tMeth, tSl, tPart, tNoPart, tM1, tFmt, tJs_nil, tJs_cons, tCKw, rI0, rI, rU, rEq, rNe, scal_ii, scal_ss, scal_bb, ipI, iStr, iTup, iList, iRng1, sFld, tFld, L2.start, List.getElem?_cons_zero, List.getElem?_cons_succ, List.set_cons_zero, List.set_cons_succ, Option.some.injEq, V.int.injEq, V.bl.injEq, V.str.injEq, V.ref.injEq,
  List.cons.injEq, exists_and_left, exists_eq_left', exists_eq_left, exists_eq_right, exists_eq_right', exists_eq', exists_eq, and_true, true_and, and_self, List.map_cons, List.map_nil, List.length_cons, List.length_nil, List.replicate_succ, List.replicate_zero, List.cons_append, List.nil_append, List.append_nil,
  Nat.add_sub_cancel, Nat.reduceAdd, Nat.reduceSub, if_true, if_false, ite_true, ite_false, Bool.not_true, Bool.not_false, Bool.true_eq_false, Bool.false_eq_true, reduceIte, reduceCtorEq, false_and, exists_false, or_false, false_or, decide_true, decide_false, wipe])

section
variable {P : Program} {w : World} {K : PySem.W.Frag} {mg : Str → Option Value} {base : Heap} {C : Addr}
abbrev s_law : Stmt := topS 120
theorem sc_law : FnScope ["_law_cells", "_law_k"] ["_law_cells"] (defScope s_law) := ⟨rfl, rfl, rfl, by decide +kernel, rfl, by decide +kernel, by decide +kernel⟩
def spLaw (K : PySem.W.Frag) (T : List (Addr × Str)) : Sp := fun vs H Q _ => ∃ (a : Addr) (ns : List Int), vs = [.ref a] ∧ SqL K H a (ns.map V.int) ∧ ns.length ≤ 63 ∧ Tabs T H ∧ ∀ H', Q (.bl true) H'
theorem many_ok {M : Nat} {L : Int} (hM : 2 ≤ M) (h0 : 0 ≤ L) : ∃ n : Nat, n ≤ M ∧ (if (if ((M : Nat) : Int) < L then ((M : Nat) : Int) else L) > 2 then (if ((M : Nat) : Int) < L then ((M : Nat) : Int) else L) else 2) = (n : Int) := by
  by_cases h1 : ((M : Nat) : Int) < L
  · rw [if_pos h1]
    by_cases h2 : ((M : Nat) : Int) > 2
    · rw [if_pos h2]
      exact ⟨M, by omega, rfl⟩
    · rw [if_neg h2]
      exact ⟨2, hM, rfl⟩
  · rw [if_neg h1]
    by_cases h2 : L > 2
    · rw [if_pos h2]
      exact ⟨L.toNat, by omega, by omega⟩
    · rw [if_neg h2]
      exact ⟨2, hM, rfl⟩
theorem ok_law {c : Addr} {T : List (Addr × Str)} (B : Bl mg) (c_law_right : CalG P w K mg base 12 "_law_right" ["_law_jar_here"] (spRight T)) (c_law_jar : Cal P w K mg base 2 "_law_jar" ["_law_cells", "_law_spot"] (spJar K)) : BodyGT P w K mg base 12 "law" ["_law_cells", "_law_k"] s_law c (spLaw K T) := by
  intro f A outer s H vs Q E hgd hr h
  obtain ⟨a, ns, rfl, hS, hl, hT, q⟩ := h
  refine ⟨_, (pss_one (ps_ret (pe_callB (r := rAll K) (cr_all rfl) (by rfl) B.all_ (by decide +kernel) (pa_cons (pe_lc (own := [("_law_k", 1)]) (g := gName 1) rfl sc_law.nd (pi_range1 rfl B.range_ (pa_cons (pe_callB (call_max2 rfl) (by rfl) B.max_ (by decide +kernel) (pa_cons pe_int (pa_cons (pe_callB (call_min2 rfl) (by rfl) B.min_ (by decide +kernel) (pa_cons (pe_callB (r := rLenQ K) call_len_seq (by rfl) B.len_ PySem.boot_len (pa_cons (pv 0) pa_nil)) (pa_cons pe_int pa_nil))) pa_nil))) pa_nil)) (blkOk_by (N := ["_law_cells", "_law_k"]) (sc := defScope s_law) (by decide +kernel)) (fun _ _ _ _ _ => (pg_name (i := 1) sc_law.nd rfl (.inl rfl))) (fun _ _ _ _ _ => pts_nil) (fun _ _ _ _ _ => (pe_calG c_law_right hgd hr (by decide) rfl (pa_cons (pe_cal c_law_jar hr (by decide) rfl (pa_cons (pv 0) (pa_cons (pv 1) pa_nil))) pa_nil)))) pa_nil)))), ?_⟩
  walk_at "rd"
  obtain ⟨n, hn6, hn⟩ := many_ok (M := 5) (L := ((ns.map V.int).length : Int)) (by decide) (by omega)
  refine lcTX n (fun R h => ⟨_, rfl, a, _, rfl, .inl hS, _, _, rfl, _, _, rfl, (show R [.int _] H from hn ▸ h)⟩) (by omega) hT ?_ ?_
  · intro i H8 Q' hi x8 T8 q'
    walk_at "rd"
    refine ⟨a, i, ns, rfl, x8.seqL hS id, hl, ⟨by omega, by omega⟩, fun p H9 e9 hp pl => ?_⟩
    exact ⟨p, rfl, pl, Tabs.gr T8 e9, fun H10 x10 T10 => q' H10 (Gx.fresh e9 hp x10) T10⟩
  · intro D1 H8 x8 T8 h1
    refine ⟨D1, List.replicate n true, rfl, sqL (by rw [h1, List.map_replicate]), ?_⟩
    have et : (List.replicate n true).all id = true := by simp
    rw [et]
    exact q H8
end
end K11

namespace K11
open PySem PySem.Spec PyProof.Rows L2 Z ZE LamX
theorem FnOk.calm {P : Program} {w : World} {K : PySem.W.Frag} {mg : Str → Option Value} {base : Heap} {k : Nat} {f : Addr} {fd : FuncData} {ps : List Str} {sp : Sp} (F : FnOk P w K mg base (L2.CX P w) k f fd ps sp)
    (hsp : ∀ vs H Q E, sp vs H Q E → sp vs H Q E0) : FnOk P w K mg base L2.CX0 k f fd ps sp :=
  ⟨F.len, fun A outer s H args us vs Q E hr he hb hv hs => codeAny_mono (F.run A outer s H args us vs Q E0 hr he hb hv (hsp _ _ _ _ hs)) fun r s' hq => by
    cases r with
    | error er =>
      obtain ⟨_, _, _, _, _, _, _, _, _, _, _, _, z⟩ := (show L2.CX P w outer H s E0 er s' from hq)
      exact z.elim
    | ok fl => cases fl with
      | ret u => exact hq
      | next => exact False.elim hq
      | brk => exact False.elim hq
      | cont => exact False.elim hq⟩
section
variable {P : Program} {w : World} {K : PySem.W.Frag} {mg : Str → Option Value} {base h : Heap}
theorem df_of {x : Str} {st : Stmt} (hm : mg x = some (.ref (He.ga K x))) (F : ∃ fd, FunD K x x (defArgs st) (defBody st) (defScope st) [] [] (He.ga K x) fd) : Df K mg x st := by
  obtain ⟨fd, F⟩ := F
  exact ⟨_, fd, hm, F⟩
theorem fun_of {a : Addr} {name qual : Str} {params : Arguments} {body : List Stmt} {scope : Scope} (hw : gW K a = some (name, qual, params, FuncBody.stmts body, scope, mainGlobals, [], builtinsNs)) (hb : gB K a qual = true) : ∃ fd, FunD K name qual params body scope [] [] a fd := by
  unfold gW at hw
  unfold gB at hb
  rw [Bool.and_eq_true] at hb
  obtain ⟨hb1, hb2⟩ := hb
  split at hw
  · rename_i oc od fd osl hl
    rw [hl] at hb2
    have hb3 : (PySem.W.codeIn K fd.code qual && decide (fd.defaults = .none)) = true := hb2
    rw [Bool.and_eq_true] at hb3
    have hd := of_decide_eq_true hb3.2
    cases fd
    simp only [Option.some.injEq, Prod.mk.injEq] at hw
    obtain ⟨rfl, rfl, rfl, rfl, rfl, rfl, rfl, rfl⟩ := hw
    have hd2 : _ = Value.none := hd
    subst hd2
    exact ⟨_, ⟨⟨_, _, _, _, _, _, _, _, _, _, rfl, hl, hb3.1, .inl ⟨rfl, rfl⟩, .inl rfl⟩, hb1⟩⟩
  · cases hw
theorem rec_of {p g : Addr} (h : recB K p g = true) : ∃ rest, PySem.W.recIn K p "property" = some (Value.ref g :: rest) := by
  unfold recB at h
  split at h
  · rename_i k rest e
    have := of_decide_eq_true h
    subst this
    exact ⟨rest, e⟩
  · cases h
theorem ex_at (e : ex K = true) (i : Nat) {b : Bool} (hb : (exs K)[i]? = some b) : b = true := by
  have := List.all_eq_true.mp e b (List.mem_of_getElem? hb)
  exact this
theorem df_is_integer (X : K.In h) (G : h.Ns mainGlobals mg) (c : He.SaysD fa fn K) : Df K mg "is_integer" s_is_integer := df_of (He.glo_ok X G (c.fact 24 (f := He.Fa.glo "is_integer") rfl)) (c.def_ 0 (d := ⟨("is_integer", none), "is_integer", "is_integer", defArgs s_is_integer, defBody s_is_integer, defScope s_is_integer, [], []⟩) rfl)
theorem df_is_number (X : K.In h) (G : h.Ns mainGlobals mg) (c : He.SaysD fa fn K) : Df K mg "is_number" s_is_number := df_of (He.glo_ok X G (c.fact 25 (f := He.Fa.glo "is_number") rfl)) (c.def_ 1 (d := ⟨("is_number", none), "is_number", "is_number", defArgs s_is_number, defBody s_is_number, defScope s_is_number, [], []⟩) rfl)
theorem df_check_number (X : K.In h) (G : h.Ns mainGlobals mg) (c : He.SaysD fa fn K) : Df K mg "check_number" s_check_number := df_of (He.glo_ok X G (c.fact 26 (f := He.Fa.glo "check_number") rfl)) (c.def_ 2 (d := ⟨("check_number", none), "check_number", "check_number", defArgs s_check_number, defBody s_check_number, defScope s_check_number, [], []⟩) rfl)
theorem df_is_integer_within (X : K.In h) (G : h.Ns mainGlobals mg) (c : He.SaysD fa fn K) : Df K mg "is_integer_within" s_is_integer_within := df_of (He.glo_ok X G (c.fact 27 (f := He.Fa.glo "is_integer_within") rfl)) (c.def_ 3 (d := ⟨("is_integer_within", none), "is_integer_within", "is_integer_within", defArgs s_is_integer_within, defBody s_is_integer_within, defScope s_is_integer_within, [], []⟩) rfl)
theorem df_is_tuple_of (X : K.In h) (G : h.Ns mainGlobals mg) (c : He.SaysD fa fn K) : Df K mg "is_tuple_of" s_is_tuple_of := df_of (He.glo_ok X G (c.fact 28 (f := He.Fa.glo "is_tuple_of") rfl)) (c.def_ 4 (d := ⟨("is_tuple_of", none), "is_tuple_of", "is_tuple_of", defArgs s_is_tuple_of, defBody s_is_tuple_of, defScope s_is_tuple_of, [], []⟩) rfl)
theorem df_is_name (X : K.In h) (G : h.Ns mainGlobals mg) (c : He.SaysD fa fn K) : Df K mg "is_name" s_is_name := df_of (He.glo_ok X G (c.fact 29 (f := He.Fa.glo "is_name") rfl)) (c.def_ 5 (d := ⟨("is_name", none), "is_name", "is_name", defArgs s_is_name, defBody s_is_name, defScope s_is_name, [], []⟩) rfl)
theorem df_check_order (X : K.In h) (G : h.Ns mainGlobals mg) (c : He.SaysD fa fn K) : Df K mg "check_order" s_check_order := df_of (He.glo_ok X G (c.fact 34 (f := He.Fa.glo "check_order") rfl)) (c.def_ 7 (d := ⟨("check_order", none), "check_order", "check_order", defArgs s_check_order, defBody s_check_order, defScope s_check_order, [], []⟩) rfl)
theorem df_are_worths (X : K.In h) (G : h.Ns mainGlobals mg) (c : He.SaysD fa fn K) : Df K mg "are_worths" s_are_worths := df_of (He.glo_ok X G (c.fact 36 (f := He.Fa.glo "are_worths") rfl)) (c.def_ 8 (d := ⟨("are_worths", none), "are_worths", "are_worths", defArgs s_are_worths, defBody s_are_worths, defScope s_are_worths, [], []⟩) rfl)
theorem df_check_measures (X : K.In h) (G : h.Ns mainGlobals mg) (c : He.SaysD fa fn K) : Df K mg "_check_measures" s_check_measures := df_of (He.glo_ok X G (c.fact 37 (f := He.Fa.glo "_check_measures") rfl)) (c.def_ 9 (d := ⟨("_check_measures", none), "_check_measures", "_check_measures", defArgs s_check_measures, defBody s_check_measures, defScope s_check_measures, [], []⟩) rfl)
theorem df_check_kinds (X : K.In h) (G : h.Ns mainGlobals mg) (c : He.SaysD fa fn K) : Df K mg "_check_kinds" s_check_kinds := df_of (He.glo_ok X G (c.fact 38 (f := He.Fa.glo "_check_kinds") rfl)) (c.def_ 10 (d := ⟨("_check_kinds", none), "_check_kinds", "_check_kinds", defArgs s_check_kinds, defBody s_check_kinds, defScope s_check_kinds, [], []⟩) rfl)
theorem df_check_people (X : K.In h) (G : h.Ns mainGlobals mg) (c : He.SaysD fa fn K) : Df K mg "_check_people" s_check_people := df_of (He.glo_ok X G (c.fact 39 (f := He.Fa.glo "_check_people") rfl)) (c.def_ 11 (d := ⟨("_check_people", none), "_check_people", "_check_people", defArgs s_check_people, defBody s_check_people, defScope s_check_people, [], []⟩) rfl)
theorem df_is_kind (X : K.In h) (G : h.Ns mainGlobals mg) (c : He.SaysD fa fn K) : Df K mg "_is_kind" s_is_kind := df_of (He.glo_ok X G (c.fact 40 (f := He.Fa.glo "_is_kind") rfl)) (c.def_ 12 (d := ⟨("_is_kind", none), "_is_kind", "_is_kind", defArgs s_is_kind, defBody s_is_kind, defScope s_is_kind, [], []⟩) rfl)
theorem df_is_person (X : K.In h) (G : h.Ns mainGlobals mg) (c : He.SaysD fa fn K) : Df K mg "_is_person" s_is_person := df_of (He.glo_ok X G (c.fact 41 (f := He.Fa.glo "_is_person") rfl)) (c.def_ 13 (d := ⟨("_is_person", none), "_is_person", "_is_person", defArgs s_is_person, defBody s_is_person, defScope s_is_person, [], []⟩) rfl)
theorem df_are_refused (X : K.In h) (G : h.Ns mainGlobals mg) (c : He.SaysD fa fn K) : Df K mg "_are_refused" s_are_refused := df_of (He.glo_ok X G (c.fact 42 (f := He.Fa.glo "_are_refused") rfl)) (c.def_ 14 (d := ⟨("_are_refused", none), "_are_refused", "_are_refused", defArgs s_are_refused, defBody s_are_refused, defScope s_are_refused, [], []⟩) rfl)
theorem df_most_people (X : K.In h) (G : h.Ns mainGlobals mg) (c : He.SaysD fa fn K) : Df K mg "_most_people" s_most_people := df_of (He.glo_ok X G (c.fact 43 (f := He.Fa.glo "_most_people") rfl)) (c.def_ 15 (d := ⟨("_most_people", none), "_most_people", "_most_people", defArgs s_most_people, defBody s_most_people, defScope s_most_people, [], []⟩) rfl)
theorem df_names (X : K.In h) (G : h.Ns mainGlobals mg) (c : He.SaysD fa fn K) : Df K mg "_names" s_names := df_of (He.glo_ok X G (c.fact 44 (f := He.Fa.glo "_names") rfl)) (c.def_ 16 (d := ⟨("_names", none), "_names", "_names", defArgs s_names, defBody s_names, defScope s_names, [], []⟩) rfl)
theorem df_text_of (X : K.In h) (G : h.Ns mainGlobals mg) (c : He.SaysD fa fn K) : Df K mg "_text_of" s_text_of := df_of (He.glo_ok X G (c.fact 45 (f := He.Fa.glo "_text_of") rfl)) (c.def_ 17 (d := ⟨("_text_of", none), "_text_of", "_text_of", defArgs s_text_of, defBody s_text_of, defScope s_text_of, [], []⟩) rfl)
theorem df_is_sharing (X : K.In h) (G : h.Ns mainGlobals mg) (c : He.SaysD fa fn K) : Df K mg "is_sharing" s_is_sharing := df_of (He.glo_ok X G (c.fact 84 (f := He.Fa.glo "is_sharing") rfl)) (c.def_ 18 (d := ⟨("is_sharing", none), "is_sharing", "is_sharing", defArgs s_is_sharing, defBody s_is_sharing, defScope s_is_sharing, [], []⟩) rfl)
theorem df_table (X : K.In h) (G : h.Ns mainGlobals mg) (c : He.SaysD fa fn K) : Df K mg "table" s_table := df_of (He.glo_ok X G (c.fact 85 (f := He.Fa.glo "table") rfl)) (c.def_ 19 (d := ⟨("table", none), "table", "table", defArgs s_table, defBody s_table, defScope s_table, [], []⟩) rfl)
theorem df_possible (X : K.In h) (G : h.Ns mainGlobals mg) (c : He.SaysD fa fn K) : Df K mg "possible" s_possible := df_of (He.glo_ok X G (c.fact 86 (f := He.Fa.glo "possible") rfl)) (c.def_ 20 (d := ⟨("possible", none), "possible", "possible", defArgs s_possible, defBody s_possible, defScope s_possible, [], []⟩) rfl)
theorem df_sharing (X : K.In h) (G : h.Ns mainGlobals mg) (c : He.SaysD fa fn K) : Df K mg "sharing" s_sharing := df_of (He.glo_ok X G (c.fact 87 (f := He.Fa.glo "sharing") rfl)) (c.def_ 21 (d := ⟨("sharing", none), "sharing", "sharing", defArgs s_sharing, defBody s_sharing, defScope s_sharing, [], []⟩) rfl)
theorem df_used (X : K.In h) (G : h.Ns mainGlobals mg) (c : He.SaysD fa fn K) : Df K mg "used" s_used := df_of (He.glo_ok X G (c.fact 88 (f := He.Fa.glo "used") rfl)) (c.def_ 22 (d := ⟨("used", none), "used", "used", defArgs s_used, defBody s_used, defScope s_used, [], []⟩) rfl)
theorem df_reason (X : K.In h) (G : h.Ns mainGlobals mg) (c : He.SaysD fa fn K) : Df K mg "reason" s_reason := df_of (He.glo_ok X G (c.fact 96 (f := He.Fa.glo "reason") rfl)) (c.def_ 23 (d := ⟨("reason", none), "reason", "reason", defArgs s_reason, defBody s_reason, defScope s_reason, [], []⟩) rfl)
theorem df_law_cell (X : K.In h) (G : h.Ns mainGlobals mg) (c : He.SaysD fa fn K) : Df K mg "_law_cell" s_law_cell := df_of (He.glo_ok X G (c.fact 97 (f := He.Fa.glo "_law_cell") rfl)) (c.def_ 24 (d := ⟨("_law_cell", none), "_law_cell", "_law_cell", defArgs s_law_cell, defBody s_law_cell, defScope s_law_cell, [], []⟩) rfl)
theorem df_law_jar (X : K.In h) (G : h.Ns mainGlobals mg) (c : He.SaysD fa fn K) : Df K mg "_law_jar" s_law_jar := df_of (He.glo_ok X G (c.fact 98 (f := He.Fa.glo "_law_jar") rfl)) (c.def_ 25 (d := ⟨("_law_jar", none), "_law_jar", "_law_jar", defArgs s_law_jar, defBody s_law_jar, defScope s_law_jar, [], []⟩) rfl)
theorem df_law_dig (X : K.In h) (G : h.Ns mainGlobals mg) (c : He.SaysD fa fn K) : Df K mg "_law_dig" s_law_dig := df_of (He.glo_ok X G (c.fact 99 (f := He.Fa.glo "_law_dig") rfl)) (c.def_ 26 (d := ⟨("_law_dig", none), "_law_dig", "_law_dig", defArgs s_law_dig, defBody s_law_dig, defScope s_law_dig, [], []⟩) rfl)
theorem df_law_take (X : K.In h) (G : h.Ns mainGlobals mg) (c : He.SaysD fa fn K) : Df K mg "_law_take" s_law_take := df_of (He.glo_ok X G (c.fact 100 (f := He.Fa.glo "_law_take") rfl)) (c.def_ 27 (d := ⟨("_law_take", none), "_law_take", "_law_take", defArgs s_law_take, defBody s_law_take, defScope s_law_take, [], []⟩) rfl)
theorem df_law_plan (X : K.In h) (G : h.Ns mainGlobals mg) (c : He.SaysD fa fn K) : Df K mg "_law_plan" s_law_plan := df_of (He.glo_ok X G (c.fact 101 (f := He.Fa.glo "_law_plan") rfl)) (c.def_ 28 (d := ⟨("_law_plan", none), "_law_plan", "_law_plan", defArgs s_law_plan, defBody s_law_plan, defScope s_law_plan, [], []⟩) rfl)
theorem df_law_order (X : K.In h) (G : h.Ns mainGlobals mg) (c : He.SaysD fa fn K) : Df K mg "_law_order" s_law_order := df_of (He.glo_ok X G (c.fact 102 (f := He.Fa.glo "_law_order") rfl)) (c.def_ 29 (d := ⟨("_law_order", none), "_law_order", "_law_order", defArgs s_law_order, defBody s_law_order, defScope s_law_order, [], []⟩) rfl)
theorem df_law_sort (X : K.In h) (G : h.Ns mainGlobals mg) (c : He.SaysD fa fn K) : Df K mg "_law_sort" s_law_sort := df_of (He.glo_ok X G (c.fact 103 (f := He.Fa.glo "_law_sort") rfl)) (c.def_ 30 (d := ⟨("_law_sort", none), "_law_sort", "_law_sort", defArgs s_law_sort, defBody s_law_sort, defScope s_law_sort, [], []⟩) rfl)
theorem df_law_caught (X : K.In h) (G : h.Ns mainGlobals mg) (c : He.SaysD fa fn K) : Df K mg "_law_caught" s_law_caught := df_of (He.glo_ok X G (c.fact 104 (f := He.Fa.glo "_law_caught") rfl)) (c.def_ 31 (d := ⟨("_law_caught", none), "_law_caught", "_law_caught", defArgs s_law_caught, defBody s_law_caught, defScope s_law_caught, [], []⟩) rfl)
theorem df_law_odd (X : K.In h) (G : h.Ns mainGlobals mg) (c : He.SaysD fa fn K) : Df K mg "_law_odd" s_law_odd := df_of (He.glo_ok X G (c.fact 105 (f := He.Fa.glo "_law_odd") rfl)) (c.def_ 32 (d := ⟨("_law_odd", none), "_law_odd", "_law_odd", defArgs s_law_odd, defBody s_law_odd, defScope s_law_odd, [], []⟩) rfl)
theorem df_law_no_number (X : K.In h) (G : h.Ns mainGlobals mg) (c : He.SaysD fa fn K) : Df K mg "_law_no_number" s_law_no_number := df_of (He.glo_ok X G (c.fact 106 (f := He.Fa.glo "_law_no_number") rfl)) (c.def_ 33 (d := ⟨("_law_no_number", none), "_law_no_number", "_law_no_number", defArgs s_law_no_number, defBody s_law_no_number, defScope s_law_no_number, [], []⟩) rfl)
theorem df_law_asked (X : K.In h) (G : h.Ns mainGlobals mg) (c : He.SaysD fa fn K) : Df K mg "_law_asked" s_law_asked := df_of (He.glo_ok X G (c.fact 107 (f := He.Fa.glo "_law_asked") rfl)) (c.def_ 34 (d := ⟨("_law_asked", none), "_law_asked", "_law_asked", defArgs s_law_asked, defBody s_law_asked, defScope s_law_asked, [], []⟩) rfl)
theorem df_law_right (X : K.In h) (G : h.Ns mainGlobals mg) (c : He.SaysD fa fn K) : Df K mg "_law_right" s_law_right := df_of (He.glo_ok X G (c.fact 108 (f := He.Fa.glo "_law_right") rfl)) (c.def_ 35 (d := ⟨("_law_right", none), "_law_right", "_law_right", defArgs s_law_right, defBody s_law_right, defScope s_law_right, [], []⟩) rfl)
theorem df_law (X : K.In h) (G : h.Ns mainGlobals mg) (c : He.SaysD fa fn K) : Df K mg "law" s_law := df_of (He.glo_ok X G (c.fact 109 (f := He.Fa.glo "law") rfl)) (c.def_ 36 (d := ⟨("law", none), "law", "law", defArgs s_law, defBody s_law, defScope s_law, [], []⟩) rfl)
theorem bl_of (X : K.In h) (G : h.Ns mainGlobals mg) (c : He.SaysD fa fn K) : Bl mg := ⟨(He.free_ok X G (c.fact 110 (f := He.Fa.free "isinstance") rfl)), (He.free_ok X G (c.fact 111 (f := He.Fa.free "len") rfl)), (He.free_ok X G (c.fact 112 (f := He.Fa.free "all") rfl)), (He.free_ok X G (c.fact 113 (f := He.Fa.free "any") rfl)), (He.free_ok X G (c.fact 114 (f := He.Fa.free "enumerate") rfl)), (He.free_ok X G (c.fact 115 (f := He.Fa.free "tuple") rfl)), (He.free_ok X G (c.fact 116 (f := He.Fa.free "list") rfl)), (He.free_ok X G (c.fact 117 (f := He.Fa.free "dict") rfl)), (He.free_ok X G (c.fact 118 (f := He.Fa.free "sum") rfl)), (He.free_ok X G (c.fact 119 (f := He.Fa.free "range") rfl)), (He.free_ok X G (c.fact 120 (f := He.Fa.free "int") rfl)), (He.free_ok X G (c.fact 121 (f := He.Fa.free "str") rfl)), (He.free_ok X G (c.fact 122 (f := He.Fa.free "bool") rfl)), (He.free_ok X G (c.fact 123 (f := He.Fa.free "abs") rfl)), (He.free_ok X G (c.fact 124 (f := He.Fa.free "min") rfl)), (He.free_ok X G (c.fact 125 (f := He.Fa.free "max") rfl)), (He.free_ok X G (c.fact 126 (f := He.Fa.free "divmod") rfl)), (He.free_ok X G (c.fact 127 (f := He.Fa.free "repr") rfl)), (He.free_ok X G (c.fact 128 (f := He.Fa.free "sorted") rfl)), (He.free_ok X G (c.fact 129 (f := He.Fa.free "zip") rfl)), (He.free_ok X G (c.fact 130 (f := He.Fa.free "reversed") rfl)), (He.free_ok X G (c.fact 131 (f := He.Fa.free "set") rfl))⟩
theorem cls_of (c : He.SaysD fa fn K) : Cls K (He.ga K "Order") := He.cls_ok (c.fact 133 (f := He.Fa.cls "Order") rfl)
theorem isc_of (e : ex K = true) : IsC K (He.ga K "Order") := ⟨He.eqO_ok (ex_at e 3 rfl), of_decide_eq_true (ex_at e 4 rfl), of_decide_eq_true (ex_at e 5 rfl), of_decide_eq_true (ex_at e 2 rfl)⟩
theorem nec_of (e : ex K = true) : NeC K (He.ga K "Order") := ⟨He.eqO_ok (ex_at e 1 rfl), of_decide_eq_true (ex_at e 2 rfl)⟩
theorem g_gcd_of (X : K.In h) (G : h.Ns mainGlobals mg) (e : ex K = true) : mg "gcd" = some (.builtin "math.gcd") := PySem.W.mg_of X G (of_decide_eq_true (ex_at e 0 rfl))
theorem prp_people (e : ex K = true) (hw : gws K = gvs) (c : He.SaysD fa fn K) : Prp P w K mg base 1 (He.ga K "Order") "people" "_people" := by
  have hg : gW K (gA_people K) = _ := (List.getElem?_eq_some_iff.mp (show (gvs)[0]? = some (gW K (gA_people K)) from hw ▸ rfl)).2.symm
  obtain ⟨fd, F⟩ := fun_of (K := K) (a := gA_people K) hg (ex_at e 10 rfl)
  have hb := F.bindsN (ps := ["self"]) fun _ _ _ _ _ _ us hl => match us, hl with | [_], _ => rfl
  obtain ⟨oc, od, dV, kV, doc, pm, an, cdv, ct, osl, rfl, lk, code, _, _⟩ := F.ex
  exact ⟨pA_people K, gA_people K, _, cls_of c, ⟨He.eqO_ok (ex_at e 6 rfl), of_decide_eq_true (ex_at e 7 rfl), of_decide_eq_true (ex_at e 8 rfl), rec_of (ex_at e 9 rfl)⟩, hb, fn_getter (N := ["self"]) lk code ⟨rfl, rfl, rfl, by decide +kernel, rfl, by decide +kernel, by decide +kernel⟩ rfl rfl (cls_of c) (He.noat_ok (c.fact 137 (f := He.Fa.noat "Order" "_people") rfl))⟩
theorem gle_of (X : K.In h) (G : h.Ns mainGlobals mg) (c : He.SaysD fa fn K) : Gl3 K mg := ⟨He.glo_ok X G (c.fact 4 (f := He.Fa.glo "NotAnOrder") rfl), He.glo_ok X G (c.fact 2 (f := He.Fa.glo "InvalidNumber") rfl), He.glo_ok X G (c.fact 12 (f := He.Fa.glo "TooMany") rfl), He.glo_ok X G (c.fact 1 (f := He.Fa.glo "WrongValue") rfl), He.glo_ok X G (c.fact 10 (f := He.Fa.glo "WrongName") rfl), He.glo_ok X G (c.fact 11 (f := He.Fa.glo "NoAnswer") rfl)⟩
theorem erall_of (e : ex K = true) : Er3 K := er3All_ok (ex_at e 11 rfl)
theorem er_InvalidNumber_of (X : K.In h) (G : h.Ns mainGlobals mg) (e : ex K = true) (hw : gws K = gvs) (c : He.SaysD fa fn K) : PySem.ErrG.ErTxt K mg "InvalidNumber" "InvalidNumber.__init__" (He.ga K "InvalidNumber") (iAd K (He.ga K "InvalidNumber")) := by
  have hg : gW K (iAd K (He.ga K "InvalidNumber")) = _ := (List.getElem?_eq_some_iff.mp (show (gvs)[1]? = some (gW K (iAd K (He.ga K "InvalidNumber"))) from hw ▸ rfl)).2.symm
  obtain ⟨fd, F⟩ := fun_of (K := K) (a := iAd K (He.ga K "InvalidNumber")) hg (ex_at e 14 rfl)
  exact PySem.ErrG.er_of (He.glo_ok X G (c.fact 2 (f := He.Fa.glo "InvalidNumber") rfl)) F (ex_at e 13 rfl)
theorem er_NotAnOrder_of (X : K.In h) (G : h.Ns mainGlobals mg) (e : ex K = true) (hw : gws K = gvs) (c : He.SaysD fa fn K) : PySem.ErrG.ErTxt K mg "NotAnOrder" "NotAnOrder.__init__" (He.ga K "NotAnOrder") (iAd K (He.ga K "NotAnOrder")) := by
  have hg : gW K (iAd K (He.ga K "NotAnOrder")) = _ := (List.getElem?_eq_some_iff.mp (show (gvs)[2]? = some (gW K (iAd K (He.ga K "NotAnOrder"))) from hw ▸ rfl)).2.symm
  obtain ⟨fd, F⟩ := fun_of (K := K) (a := iAd K (He.ga K "NotAnOrder")) hg (ex_at e 16 rfl)
  exact PySem.ErrG.er_of (He.glo_ok X G (c.fact 4 (f := He.Fa.glo "NotAnOrder") rfl)) F (ex_at e 15 rfl)
theorem dft_of {x : Str} {st : Stmt} (hm : mg x = some (.ref (He.ga K x))) (F : ∃ fd, FunD K x x (defArgs st) (defBody st) (defScope st) [] [] (He.ga K x) fd) : DfT K mg x st (He.cT K (x, none)).1 := by
  obtain ⟨fd, F⟩ := F
  have F2 := F
  obtain ⟨oc, od, dV, kV, doc, pm, an, cdv, ct, osl, rfl, lk, hcd, h4, h5⟩ := F.ex
  obtain ⟨c, rfl⟩ := He.codeIn_ref hcd
  refine ⟨_, _, hm, F2, ?_⟩
  show Value.ref c = .ref (He.codeOf K (x, none))
  rw [He.codeOf_eq (p := (x, none)) lk rfl]
theorem dft_law_asked (X : K.In h) (G : h.Ns mainGlobals mg) (c : He.SaysD fa fn K) : DfT K mg "_law_asked" s_law_asked (He.cT K ("_law_asked", none)).1 := dft_of (He.glo_ok X G (c.fact 107 (f := He.Fa.glo "_law_asked") rfl)) (c.def_ 34 (d := ⟨("_law_asked", none), "_law_asked", "_law_asked", defArgs s_law_asked, defBody s_law_asked, defScope s_law_asked, [], []⟩) rfl)
theorem dft_law_right (X : K.In h) (G : h.Ns mainGlobals mg) (c : He.SaysD fa fn K) : DfT K mg "_law_right" s_law_right (He.cT K ("_law_right", none)).1 := dft_of (He.glo_ok X G (c.fact 108 (f := He.Fa.glo "_law_right") rfl)) (c.def_ 35 (d := ⟨("_law_right", none), "_law_right", "_law_right", defArgs s_law_right, defBody s_law_right, defScope s_law_right, [], []⟩) rfl)
theorem dft_law (X : K.In h) (G : h.Ns mainGlobals mg) (c : He.SaysD fa fn K) : DfT K mg "law" s_law (He.cT K ("law", none)).1 := dft_of (He.glo_ok X G (c.fact 109 (f := He.Fa.glo "law") rfl)) (c.def_ 36 (d := ⟨("law", none), "law", "law", defArgs s_law, defBody s_law, defScope s_law, [], []⟩) rfl)
theorem ordc_of (c : He.SaysD fa fn K) : OrdC K (He.ga K "Order") := ⟨He.cls_ok (c.fact 133 (f := He.Fa.cls "Order") rfl), He.noat_ok (c.fact 135 (f := He.Fa.noat "Order" "_measures") rfl), He.noat_ok (c.fact 136 (f := He.Fa.noat "Order" "_kinds") rfl), He.noat_ok (c.fact 137 (f := He.Fa.noat "Order" "_people") rfl), He.noat_ok (c.fact 138 (f := He.Fa.noat "Order" "_text") rfl)⟩
theorem noc_of (e : ex K = true) : NoC K (He.ga K "Order") := ⟨fun t ht => by
  simp only [List.mem_cons, List.not_mem_nil, or_false] at ht
  rcases ht with rfl | rfl | rfl | rfl | rfl | rfl | rfl
  · exact of_decide_eq_true (ex_at e 17 rfl)
  · exact of_decide_eq_true (ex_at e 18 rfl)
  · exact of_decide_eq_true (ex_at e 19 rfl)
  · exact of_decide_eq_true (ex_at e 20 rfl)
  · exact of_decide_eq_true (ex_at e 21 rfl)
  · exact of_decide_eq_true (ex_at e 22 rfl)
  · exact of_decide_eq_true (ex_at e 23 rfl)
⟩
theorem di_Order (X : K.In h) (G : h.Ns mainGlobals mg) (c : He.SaysD fa fn K) : Di K mg "Order" "Order.__init__" (He.ga K "Order") s_Order__init := by
  obtain ⟨fd, F⟩ := (c.def_ 6 (d := ⟨("Order", (some "__init__")), "__init__", "Order.__init__", defArgs s_Order__init, defBody s_Order__init, defScope s_Order__init, [], []⟩) rfl)
  exact ⟨_, fd, He.glo_ok X G (c.fact 32 (f := He.Fa.glo "Order") rfl), He.mkr_ok (c.fact 134 (f := He.Fa.mkr "Order") rfl), F⟩
theorem law_fn {f c : Addr} {fd : FuncData} (F : FunD K "law" "law" (defArgs s_law) (defBody s_law) (defScope s_law) [] [] f fd) (hc : fd.code = .ref c) (body : BodyGT P w K mg base 12 "law" ["_law_cells", "_law_k"] s_law c (spLaw K (TT K))) : FnG P w K mg base 13 f fd ["_law_cells"] (spLaw K (TT K)) :=
  FunD.okGT F hc sc_law (fun vs H Q E h => by
    obtain ⟨a, ns, rfl, _⟩ := h
    rfl) fun A outer s H vs Q E hgd hr h => body f A outer s H vs Q E hgd hr h
theorem facts (X : K.In h) (G : h.Ns mainGlobals mg) (e : ex K = true) (hw : gws K = gvs) (c : He.SaysD fa fn K) (tb0 : TabB base mg (He.cT K ("_law_asked", none)).1 (He.cT K ("_law_asked", none)).2) (tb1 : TabB base mg (He.cT K ("_law_right", none)).1 (He.cT K ("_law_right", none)).2) : BodyGT P w K mg base 12 "law" ["_law_cells", "_law_k"] s_law (He.cT K ("law", none)).1 (spLaw K (TT K)) := by
  have gg := g_gcd_of X G e
  have gN := He.glo_ok X G (c.fact 32 (f := He.Fa.glo "Order") rfl)
  have B := bl_of X G c
  have hne0_1 : (He.cT K ("_law_asked", none)).2 ≠ (He.cT K ("_law_right", none)).2 := of_decide_eq_true (ex_at e 12 rfl)
  have hm0 : ((He.cT K ("_law_asked", none)).2, ("_law_asked.<locals>.<lambda>" : Str)) ∈ TT K := (List.mem_cons_self ..)
  have hu0 : ∀ p ∈ TT K, p.1 = (He.cT K ("_law_asked", none)).2 → p.2 = ("_law_asked.<locals>.<lambda>" : Str) := fun p hp h1 => by
    simp only [TT, List.mem_cons, List.not_mem_nil, or_false] at hp
    rcases hp with rfl | rfl
    · rfl
    · exact (hne0_1 h1.symm).elim
  have hm1 : ((He.cT K ("_law_right", none)).2, ("_law_right.<locals>.<lambda>" : Str)) ∈ TT K := (List.mem_cons_of_mem _ (List.mem_cons_self ..))
  have hu1 : ∀ p ∈ TT K, p.1 = (He.cT K ("_law_right", none)).2 → p.2 = ("_law_right.<locals>.<lambda>" : Str) := fun p hp h1 => by
    simp only [TT, List.mem_cons, List.not_mem_nil, or_false] at hp
    rcases hp with rfl | rfl
    · exact (hne0_1 h1).elim
    · rfl
  have B' := B
  have p_people := prp_people (P := P) (w := w) (mg := mg) (base := base) e hw c
  have TO := ordc_of c
  have c_is_integer := ok_is_integer (P := P) (w := w) (K := K) (mg := mg) (base := base) B (df_is_integer X G c)
  have c_is_integer_within := ok_is_integer_within (P := P) (w := w) (K := K) (mg := mg) (base := base) c_is_integer (df_is_integer_within X G c)
  have c_is_name := ok_is_name (P := P) (w := w) (K := K) (mg := mg) (base := base) B (He.int_ok X G (c.fact 23 (f := He.Fa.int "_LONGEST_NAME" 8) rfl)) (He.str_ok X G (c.fact 21 (f := He.Fa.str "_LETTERS" "abcdefghijklmnopqrstuvwxyz") rfl)) (He.str_ok X G (c.fact 22 (f := He.Fa.str "_LETTERS_AND_DIGITS" "abcdefghijklmnopqrstuvwxyz0123456789") rfl)) (df_is_name X G c)
  have c_is_number := ok_is_number (P := P) (w := w) (K := K) (mg := mg) (base := base) c_is_integer (df_is_number X G c)
  have c_law_sort := ok_law_sort (P := P) (w := w) (K := K) (mg := mg) (base := base) B (gle_of X G c) (erall_of e) (df_law_sort X G c)
  have c_is_tuple_of := ok_is_tuple_of (P := P) (w := w) (K := K) (mg := mg) (base := base) B (df_is_tuple_of X G c)
  have c_are_worths := ok_are_worths (P := P) (w := w) (K := K) (mg := mg) (base := base) B (He.int_ok X G (c.fact 16 (f := He.Fa.int "MOST_WORTH" 6) rfl)) c_is_integer_within c_is_tuple_of (df_are_worths X G c)
  have c_is_kind := ok_is_kind (P := P) (w := w) (K := K) (mg := mg) (base := base) B (He.int_ok X G (c.fact 15 (f := He.Fa.int "MOST_COUNT" 3) rfl)) c_is_name c_is_integer_within c_is_tuple_of c_are_worths (df_is_kind X G c)
  have c_names := ok_names (P := P) (w := w) (K := K) (mg := mg) (base := base) (df_names X G c)
  have c_most_people := ok_most_people (P := P) (w := w) (K := K) (mg := mg) (base := base) (He.int_ok X G (c.fact 14 (f := He.Fa.int "MOST_PEOPLE" 3) rfl)) (df_most_people X G c)
  have c_are_refused := ok_are_refused (P := P) (w := w) (K := K) (mg := mg) (base := base) B c_is_name (df_are_refused X G c)
  have c_is_person := ok_is_person (P := P) (w := w) (K := K) (mg := mg) (base := base) B (He.int_ok X G (c.fact 17 (f := He.Fa.int "MOST_SHARE" 3) rfl)) c_is_name c_is_integer_within c_is_tuple_of c_are_refused (df_is_person X G c)
  have c_check_measures := ok_check_measures (P := P) (w := w) (K := K) (mg := mg) (base := base) B (He.int_ok X G (c.fact 30 (f := He.Fa.int "_MOST_MEASURES" 2) rfl)) c_is_name (df_check_measures X G c)
  have c_check_kinds := ok_check_kinds (P := P) (w := w) (K := K) (mg := mg) (base := base) B (He.int_ok X G (c.fact 13 (f := He.Fa.int "MOST_KINDS" 4) rfl)) c_is_kind c_names (df_check_kinds X G c)
  have c_check_people := ok_check_people (P := P) (w := w) (K := K) (mg := mg) (base := base) B (He.int_ok X G (c.fact 31 (f := He.Fa.int "_FEWEST_PEOPLE" 2) rfl)) c_is_person c_names (df_check_people X G c)
  have c_text_of := ok_text_of (P := P) (w := w) (K := K) (mg := mg) (base := base) B (df_text_of X G c)
  have m_Order := ok_init (P := P) (w := w) (K := K) (mg := mg) (base := base) B c_check_measures c_check_kinds c_check_people c_names c_most_people c_text_of TO (di_Order X G c)
  have c_law_cell := ok_law_cell (P := P) (w := w) (K := K) (mg := mg) (base := base) B (df_law_cell X G c)
  have c_law_jar := ok_law_jar (P := P) (w := w) (K := K) (mg := mg) (base := base) B c_law_cell (df_law_jar X G c)
  have c_law_dig := ok_law_dig (P := P) (w := w) (K := K) (mg := mg) (base := base) B (df_law_dig X G c)
  have c_law_take := ok_law_take (P := P) (w := w) (K := K) (mg := mg) (base := base) B c_law_dig (df_law_take X G c)
  have c_law_odd := ok_law_odd (P := P) (w := w) (K := K) (mg := mg) (base := base) c_law_take (df_law_odd X G c)
  have c_law_no_number := ok_law_no_number (P := P) (w := w) (K := K) (mg := mg) (base := base) c_law_take (df_law_no_number X G c)
  have c_check_number := ok_check_number (P := P) (w := w) (K := K) (mg := mg) (base := base) (er_InvalidNumber_of X G e hw c) c_is_number (df_check_number X G c)
  have c_check_order := ok_check_order (P := P) (w := w) (K := K) (mg := mg) (base := base) B gN TO (isc_of e) (er_NotAnOrder_of X G e hw c) (df_check_order X G c)
  have c_sharing := ok_sharing (P := P) (w := w) (K := K) (mg := mg) (base := base) c_check_order c_check_number (df_sharing X G c)
  have kc_reason := ok_reason (P := P) (w := w) (K := K) (mg := mg) (base := base) c_check_order c_check_number (df_reason X G c)
  have kc_table := ok_table (P := P) (w := w) (K := K) (mg := mg) (base := base) (He.int_ok X G (c.fact 18 (f := He.Fa.int "MOST_BOXES" 12) rfl)) (er_InvalidNumber_of X G e hw c) c_check_order c_is_integer_within (df_table X G c)
  have kc_possible := ok_possible (P := P) (w := w) (K := K) (mg := mg) (base := base) c_check_order (df_possible X G c)
  have kc_used := ok_used (P := P) (w := w) (K := K) (mg := mg) (base := base) c_check_order (df_used X G c)
  have c_is_sharing := ok_is_sharing (P := P) (w := w) (K := K) (mg := mg) (base := base) B p_people c_is_tuple_of c_check_order c_check_number (df_is_sharing X G c)
  have kc_is_sharing := ok_is_sharingK (P := P) (w := w) (K := K) (mg := mg) (base := base) B p_people c_is_tuple_of c_check_order c_check_number (df_is_sharing X G c)
  have cau : CauD P w K mg base := ⟨df_law_caught X G c, B, gle_of X G c, erall_of e, c_law_sort⟩
  have c_law_asked := ok_law_asked (P := P) (w := w) (K := K) (mg := mg) (base := base) (T := TT K) rfl rfl B cau tb0 hm0 hu0 c_is_sharing c_sharing kc_table kc_reason (dft_law_asked X G c)
  have c_law_plan := ok_law_plan (P := P) (w := w) (K := K) (mg := mg) (base := base) B c_law_dig c_law_take (df_law_plan X G c)
  have c_law_order := ok_law_order (P := P) (w := w) (K := K) (mg := mg) (base := base) m_Order (df_law_order X G c)
  have c_law_right := ok_law_right (P := P) (w := w) (K := K) (mg := mg) (base := base) (T := TT K) rfl rfl B (noc_of e) cau tb1 hm1 hu1 c_law_plan c_law_order c_law_odd c_law_no_number c_law_asked kc_is_sharing kc_possible kc_used (dft_law_right X G c)
  have c_law := ok_law (P := P) (w := w) (K := K) (mg := mg) (base := base) (c := (He.cT K ("law", none)).1) (T := TT K) B c_law_right c_law_jar
  exact c_law
end
end K11
open PySem PySem.W PySem.Calls PyProof.Rows
theorem PySem.Challenge.cw_evenboxes_k25_sharing_refused_holds : PySem.Challenge.rw_evenboxes_k25_sharing_refused.Holds := by
  w_on; o_law
  refine HandSHeadRun.head_imp (r := K11.R) (q := K11.qv) (H := K11.hk) (ob := K11.ob) (M := 20000) (loose := K11.loose) (d := HandSHeadRun.topDef K11.R.prog K11.lawAt) (kwd := []) K11.ob_eq K11.run
    (by kernel_rfl) (by kernel_rfl) (by kernel_rfl) (by rfl) (by first | assumption | decide +kernel) (by decide +kernel) ⟨rfl, rfl, rfl, rfl, rfl, by decide +kernel⟩ ?hw ?hc
  case hw => w_witness2
  case hc =>
    refine Z.walk_ofGT (l := PySem.Challenge.rw_evenboxes_k25_sharing_refused) (n := 63) (k := 13) (x := "_law_cells") rfl (by decide) (by kernel_rfl) ⟨rfl, by decide, by decide⟩ ?F
    intro w mg fa h Y G hmg0
    obtain ⟨K, KX, cw, c⟩ := Y
    have hmg : mg ("law" : PySem.Str) = some (.ref fa) := by
      have e : (HandSHeadRun.topDef K11.R.prog K11.lawAt).name = ("law" : PySem.Str) := by kernel_rfl
      rw [← e]
      exact hmg0
    have ce : K11.ex K = true := c.more
    have cc : He.SaysD K11.fa K11.fn K := c.t.d
    obtain ⟨f2, fd, hm, F, hcode⟩ := (K11.dft_law (mg := mg) KX G cc).ex
    have ef := hmg.symm.trans hm
    cases ef
    have hb := L2.FunD.bindsA (ps := ["_law_cells"]) F fun _ _ _ _ _ _ us hl => match us, hl with | [_], _ => rfl
    have hin : ∀ p ∈ K11.tf.map (He.cT K), ∃ d ∈ K11.tf, He.cT K d = p := fun p hp => List.mem_map.mp hp
    refine ⟨K, fd, K11.tf.map (He.cT K), K11.spLaw K (K11.TT K), KX, fun p hp => ?_, fun p hp => ?_, fun p hp => ?_, fun s v => hb s [v] rfl, fun H a ns hl hH hS => ⟨a, ns, rfl, hS, hl, Z.Tabs.start fun p hp => ?_, fun _ => rfl⟩, fun base _ _ TB => K11.law_fn F hcode (K11.facts (P := (PySem.Challenge.rw_evenboxes_k25_sharing_refused).prog) (w := w) (base := base) KX G ce cw cc (TB _ (List.mem_map.mpr ⟨("_law_asked", none), (List.mem_cons_self ..), rfl⟩)) (TB _ (List.mem_map.mpr ⟨("_law_right", none), (List.mem_cons_of_mem _ (List.mem_cons_self ..)), rfl⟩)))⟩
    · obtain ⟨d, hd, rfl⟩ := hin p hp
      exact c.empty d hd
    · obtain ⟨d, hd, rfl⟩ := hin p hp
      exact c.out d hd
    · obtain ⟨d, hd, rfl⟩ := hin p hp
      exact PySem.W.codeHd_of_K KX (c.hd d hd)
    · simp only [K11.TT, List.mem_cons, List.not_mem_nil, or_false] at hp
      rcases hp with rfl | rfl
      · exact hH _ (List.mem_map.mpr ⟨("_law_asked", none), (List.mem_cons_self ..), rfl⟩)
      · exact hH _ (List.mem_map.mpr ⟨("_law_right", none), (List.mem_cons_of_mem _ (List.mem_cons_self ..)), rfl⟩)

