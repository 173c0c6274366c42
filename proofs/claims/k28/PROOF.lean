import PyProof.Rows.All
import PySem.Challenge.RW_evenboxes_k28_known_orders
import Wide.All
import OpenK.AllK
import Wide.FinOn
import KE.KStateDown
import Lean
import HandS.ForMost
import HandS.Exc
import HandS.ExcCtx
import HandS.WordsExc
import HandS.Defaults
import HandS.IsInst
import HandS.Gcd
import HandS.FStr
import HandS.Wide
import HandS.Style
import HandS.TupAny
import HandS.Walk
import HandS.Head0
import HandS.Head1
import HandS.Head2
import HandS.Head3
import HandS.HeadEnd
import HandS.HeadHook1
import HandS.HeadHook2
import HandS.ForSpec
import HandS.ExcOwn
import HandS.RaiseMore
import KE.OsGo
import KE.KExcInit
import KE.KExcLine
import HandS.HeadHook4
import KE.KIsAll
import KE.KTryMore
import KE.KExcIs
import HandS.HeadWalk
import KE.GoesEnum
import KE.GoesMore
import OpenK.KMeth
import HandS.SlotsOwn
import HandS.More
import KE.KSorted
import KE.KMinKey
import HandS.SortKw
import HandS.SetFor
import HandS.Strs
import HandS.Property
import HandS.WideBits
import HandS.Lambda
import HandS.HotCalls
import KE.DataFind
import HandS.Deep
import HandS.MakeKwOnly
import HandS.MakeKw
import KE.KMathGC
import HandS.Zip
import HandS.SortInts
import HandS.TupSets
import HandS.SetBool
import HandS.Star
import HandS.RevRange
import HandS.TryOnly
set_option Elab.async false
set_option linter.all false
set_option maxRecDepth 100000
set_option maxHeartbeats 0
/-! A prelude of our own over the hand layer: callees by name, heaps that grow, typed values, comprehensions and loops in short. -/
namespace Z
open PySem PySem.Spec PyProof.Rows L2
theorem passN {X : Cx} : Passes (L2N.CX X.prog X.w) X E0 := fun _ _ _ _ _ _ _ z => by
  obtain ⟨_, _, _, _, _, _, _, _, _, _, _, _, z⟩ := z
  exact z.elim
/-! ### defs and callees by name -/
section
variable {P : Program} {w : World} {K : PySem.W.Frag} {mg : Str → Option Value} {base : Heap}
structure Df (K : PySem.W.Frag) (mg : Str → Option Value) (x : Str) (st : Stmt) : Prop where
  ex : ∃ f fd, mg x = some (.ref f) ∧ FunD K x x (defArgs st) (defBody st) (defScope st) [] [] f fd
structure Cal (P : Program) (w : World) (K : PySem.W.Frag) (mg : Str → Option Value) (base : Heap) (k : Nat) (x : Str) (ps : List Str) (sp : Sp) : Prop where
  ex : ∃ f fd, mg x = some (.ref f) ∧ PySem.W.keepIn K (.ref f) = true ∧ Binds K fd ps [] ∧ FnOk P w K mg base (L2N.CX P w) k f fd ps sp
/-- a method's def at the class C -/
structure Dm (K : PySem.W.Frag) (C : Addr) (m q : Str) (st : Stmt) : Prop where
  ex : ∃ f fd, Cls K C ∧ Meth K C m f ∧ FunD K m q (defArgs st) (defBody st) (defScope st) [] [] f fd
structure Mtd (P : Program) (w : World) (K : PySem.W.Frag) (mg : Str → Option Value) (base : Heap) (k : Nat) (C : Addr) (m : Str) (ps : List Str) (sp : Sp) : Prop where
  ex : ∃ f fd, Cls K C ∧ Meth K C m f ∧ Binds K fd ps [] ∧ FnOk P w K mg base (L2N.CX P w) k f fd ps sp
/-- a class's maker -/
structure Di (K : PySem.W.Frag) (mg : Str → Option Value) (x q : Str) (C : Addr) (st : Stmt) : Prop where
  ex : ∃ f fd, mg x = some (.ref C) ∧ Mk K C f ∧ FunD K "__init__" q (defArgs st) (defBody st) (defScope st) [] [] f fd
structure Mkr (P : Program) (w : World) (K : PySem.W.Frag) (mg : Str → Option Value) (base : Heap) (k : Nat) (x : Str) (C : Addr) (ps : List Str) (sp : Sp) : Prop where
  ex : ∃ f fd, mg x = some (.ref C) ∧ Mk K C f ∧ Binds K fd ps [] ∧ FnOk P w K mg base (L2N.CX P w) k f fd ps sp
/-- a body that lets nothing out -/
abbrev Body (P : Program) (w : World) (K : PySem.W.Frag) (mg : Str → Option Value) (base : Heap) (k : Nat) (q : Str) (N : List Str) (st : Stmt) (sp : Sp) : Prop :=
  ∀ (f : Addr) (cdv : Value) (A : Around) (outer : List Env) (s : Shared) (H : Hp) (vs : List V) (Q : VK) (E : XK), Room k (A.deeper (envOfC q (defScope st) s.heap.objs.size f cdv)) → sp vs H Q E →
    ∃ t, PSs (cxOf (L2N.CX P w) P w K mg base N q (defScope st) f cdv A outer s H E).nox (defBody st) t ∧ t { nx := fun _ H' => Q .non H', rt := Q } (start N vs) H
abbrev Bnd (x q : Str) (st : Stmt) (ps : List Str) : Prop :=
  ∀ (kV doc pm : Value) (an : Option Addr) (cdv ct : Value) (us : List Value), us.length = ps.length → bindArgs (PySem.W.fnOf x q (defArgs st) (defBody st) (defScope st) .none kV doc pm an cdv ct) ⟨us, []⟩ = pure (ps.zip us)
theorem Df.cal {x : Str} {st : Stmt} {N ps : List Str} {k : Nat} {sp : Sp} (D : Df K mg x st) (S : FnScope N ps (defScope st)) (hb : Bnd x x st ps) (len : ∀ vs H Q E, sp vs H Q E → vs.length = ps.length)
    (body : Body P w K mg base k x N st sp) : Cal P w K mg base (k + 1) x ps sp := by
  obtain ⟨f, fd, hm, F⟩ := D.ex
  refine ⟨f, fd, hm, F.kp, F.bindsN hb, F.ok S len fun cdv A outer s H vs Q E hr h => ?_⟩
  obtain ⟨t, h1, h2⟩ := body f cdv A outer s H vs Q E hr h
  exact ⟨t, h1.nox, h2⟩
theorem Dm.mtd {C : Addr} {m q : Str} {st : Stmt} {N ps : List Str} {k : Nat} {sp : Sp} (D : Dm K C m q st) (S : FnScope N ps (defScope st)) (hb : Bnd m q st ps) (len : ∀ vs H Q E, sp vs H Q E → vs.length = ps.length)
    (body : Body P w K mg base k q N st sp) : Mtd P w K mg base (k + 1) C m ps sp := by
  obtain ⟨f, fd, hc, hm, F⟩ := D.ex
  refine ⟨f, fd, hc, hm, F.bindsN hb, F.ok S len fun cdv A outer s H vs Q E hr h => ?_⟩
  obtain ⟨t, h1, h2⟩ := body f cdv A outer s H vs Q E hr h
  exact ⟨t, h1.nox, h2⟩
theorem Di.mkr {C : Addr} {x q : Str} {st : Stmt} {N ps : List Str} {k : Nat} {sp : Sp} (D : Di K mg x q C st) (S : FnScope N ps (defScope st)) (hb : Bnd "__init__" q st ps) (len : ∀ vs H Q E, sp vs H Q E → vs.length = ps.length)
    (body : Body P w K mg base k q N st sp) : Mkr P w K mg base (k + 1) x C ps sp := by
  obtain ⟨f, fd, hm, hk, F⟩ := D.ex
  refine ⟨f, fd, hm, hk, F.bindsN hb, F.ok S len fun cdv A outer s H vs Q E hr h => ?_⟩
  obtain ⟨t, h1, h2⟩ := body f cdv A outer s H vs Q E hr h
  exact ⟨t, h1.nox, h2⟩
end
section
variable {X : Cx} {k j : Nat} {x m : Str} {C : Addr} {ps : List Str} {sp : Sp} {e o : Expr} {es : List Expr} {t : TA} {to : TE} {p pos apos : Pos}
theorem pe_cal (c : Cal X.prog X.w X.K X.mg X.base k x ps sp) (hr : Room j X.A) (hkj : k ≤ j) (hg : Gl X x) (ha : PA X (e :: es) t) (hdb : (x == ("__debug__" : Str)) = false := by decide)
    (he : starEach (e :: es) X.env = (false, eval e X.env) :: starEach es X.env := by rfl) (hpl : (backTo pos (starEach es X.env)).any (·.1) = false := by rfl) : PE X (.Call (.Name x p) (e :: es) [] pos) (tCall sp [] E0 t) := by
  obtain ⟨f, fd, hm, hk, hb, F⟩ := c.ex
  exact pe_call F (hr.mono hkj) hg hm hk hb .nil Z.passN ha hdb he hpl
theorem pe_cal0 (c : Cal X.prog X.w X.K X.mg X.base k x ps sp) (hr : Room j X.A) (hkj : k ≤ j) (hg : Gl X x) (hdb : (x == ("__debug__" : Str)) = false := by decide) : PE X (.Call (.Name x p) [] [] pos) (tCall sp [] E0 tNil) := by
  obtain ⟨f, fd, hm, hk, hb, F⟩ := c.ex
  exact pe_call0 F (hr.mono hkj) hg hm hk hb .nil Z.passN hdb
theorem pe_mk (c : Mkr X.prog X.w X.K X.mg X.base k x C ps sp) (hr : Room j X.A) (hkj : k + 1 ≤ j) (hg : Gl X x) (ha : PA X (e :: es) t) (hdb : (x == ("__debug__" : Str)) = false := by decide)
    (he : starEach (e :: es) X.env = (false, eval e X.env) :: starEach es X.env := by rfl) (hpl : (backTo pos (starEach es X.env)).any (·.1) = false := by rfl) : PE X (.Call (.Name x p) (e :: es) [] pos) (tMake C sp [] E0 t) := by
  obtain ⟨f, fd, hm, hk, hb, F⟩ := c.ex
  exact pe_make hk F (hr.mono hkj) hg hm hb .nil Z.passN ha hdb he hpl
theorem pe_mth {pl : Sem Bool} (c : Mtd X.prog X.w X.K X.mg X.base k C m ps sp) (hr : Room j X.A) (hkj : k ≤ j) (ho : PE X o to) (ha : PA X (e :: es) t)
    (hst : starEach (e :: es) X.env = (false, eval e X.env) :: starEach es X.env := by rfl) (hpl : (backTo pos (starEach es X.env)).any (·.1) = false := by rfl)
    (ht : eval (.Call (.Attribute o m apos) (e :: es) [] pos) X.env = (do
      let ov ← eval o X.env
      standAt apos.atName
      let (f, first) ← holding [ov] (getMethod ov m pl)
      callWith pos f first (backTo pos (starEach (e :: es) X.env)) (backToKw pos (keywordEach [] X.env))) := by rfl) : PE X (.Call (.Attribute o m apos) (e :: es) [] pos) (tMeth C m sp [] E0 to t) := by
  obtain ⟨f, fd, hc, hm, hb, F⟩ := c.ex
  exact pe_meth ho hc hm F (hr.mono hkj) hb .nil Z.passN ha hst hpl ht
theorem pe_gi {i : Int} (hg : Gl X x) (hm : ∃ t, X.mg x = some (.int i t)) (hd : (x == ("__debug__" : Str)) = false := by decide) : PE X (.Name x pos) (tC (.int i)) := by
  obtain ⟨t, h⟩ := hm
  exact pe_glob hg h ⟨t, rfl⟩ hd
theorem pe_gs {z : Str} (hg : Gl X x) (hm : ∃ t, X.mg x = some (.str z t)) (hd : (x == ("__debug__" : Str)) = false := by decide) : PE X (.Name x pos) (tC (.str z)) := by
  obtain ⟨t, h⟩ := hm
  exact pe_glob hg h ⟨t, rfl⟩ hd
end
/-- built-in names that the top leaves alone -/
structure Bl (mg : Str → Option Value) : Prop where
  isinstance_ : mg "isinstance" = none
  len_ : mg "len" = none
  all_ : mg "all" = none
  any_ : mg "any" = none
  enumerate_ : mg "enumerate" = none
  tuple_ : mg "tuple" = none
  list_ : mg "list" = none
  dict_ : mg "dict" = none
  sum_ : mg "sum" = none
  range_ : mg "range" = none
  int_ : mg "int" = none
  str_ : mg "str" = none
  bool_ : mg "bool" = none
  abs_ : mg "abs" = none
  min_ : mg "min" = none
  max_ : mg "max" = none
  divmod_ : mg "divmod" = none
  repr_ : mg "repr" = none
  sorted_ : mg "sorted" = none
  zip_ : mg "zip" = none
  reversed_ : mg "reversed" = none
  set_ : mg "set" = none
theorem small {n : Nat} (h : n ≤ 100000) : n ≤ sizeLine := Nat.le_trans h (by decide)
theorem smallt {n : Nat} (h : n < 100000) : n < sizeLine := Nat.lt_of_lt_of_le h (by decide)
/-! ### heaps that grow: all that was tracked stands; lists and instances that m names may hold other things -/
def Alt (o o' : HO) : Prop := (∃ xs ys, o = .lst xs ∧ o' = .lst ys) ∨ ∃ C dx fs fs', o = .ins C dx fs ∧ o' = .ins C dx fs'
def Gr (m : Addr → Prop) (H H' : Hp) : Prop := ∀ b o, H b = some o → H' b = some o ∨ (m b ∧ ∃ o', Alt o o' ∧ H' b = some o')
abbrev nob : Addr → Prop := fun _ => False
abbrev any : Addr → Prop := fun _ => True
abbrev Ex (H H' : Hp) : Prop := Gr nob H H'
section
variable {m n : Addr → Prop} {H H' H'' : Hp} {a b p : Addr} {o o' : HO} {K : PySem.W.Frag}
theorem Alt.trans {o1 o2 o3 : HO} (h : Alt o1 o2) (k : Alt o2 o3) : Alt o1 o3 := by
  rcases h with ⟨xs, ys, rfl, rfl⟩ | ⟨C, dx, fs, fs', rfl, rfl⟩
  · rcases k with ⟨_, zs, _, rfl⟩ | ⟨_, _, _, _, h, _⟩
    · exact .inl ⟨xs, zs, rfl, rfl⟩
    · cases h
  · rcases k with ⟨_, _, h, _⟩ | ⟨_, _, _, fs'', h, rfl⟩
    · cases h
    · cases h
      exact .inr ⟨C, dx, fs, fs'', rfl, rfl⟩
theorem Gr.refl : Gr m H H := fun _ _ h => .inl h
theorem Gr.trans (e : Gr m H H') (f : Gr m H' H'') : Gr m H H'' := fun c o h => by
  rcases e c o h with h | ⟨h1, o1, h2, h3⟩
  · exact f c o h
  · rcases f c _ h3 with h | ⟨_, o2, h4, h5⟩
    · exact .inr ⟨h1, o1, h2, h⟩
    · exact .inr ⟨h1, o2, h2.trans h4, h5⟩
theorem Gr.up (h : Gr m H H') (w : ∀ a, m a → n a) : Gr n H H' := fun b o e => (h b o e).imp id fun ⟨h1, h2⟩ => ⟨w b h1, h2⟩
theorem Gr.any (h : Gr m H H') : Gr any H H' := h.up fun _ _ => trivial
theorem Gr.of (h : Ex H H') : Gr m H H' := h.up fun _ z => z.elim
/-- a new object -/
theorem Gr.new (h : H p = none) : Gr m H (upd H p o) := fun b u e => .inl (by
  rw [upd_ne (ne_of_none e h)]
  exact e)
theorem Gr.alloc (e : Gr m H H') (h : H' p = none) : Gr m H (upd H' p o) := e.trans (.new h)
/-- an object that H did not know, or that may change, changes -/
theorem Gr.alt (e : Gr m H H') (h : H' p = some o) (ho : Alt o o') (hp : H p = none ∨ m p) : Gr m H (upd H' p o') := fun b u q => by
  by_cases hb : b = p
  · subst hb
    rcases hp with hp | hp
    · rw [hp] at q
      cases q
    · rcases e b u q with z | ⟨_, o1, z1, z2⟩
      · rw [h] at z
        cases z
        exact .inr ⟨hp, o', ho, upd_same⟩
      · rw [h] at z2
        cases z2
        exact .inr ⟨hp, o', z1.trans ho, upd_same⟩
  · rw [upd_ne hb]
    exact e b u q
theorem Gr.put {xs ys : List V} (e : Gr m H H') (h : H' p = some (.lst xs)) (hp : H p = none ∨ m p) : Gr m H (upd H' p (.lst ys)) := e.alt h (.inl ⟨xs, ys, rfl, rfl⟩) hp
theorem Gr.puti {C dx : Addr} {fs fs' : List (Str × V)} (e : Gr m H H') (h : H' p = some (.ins C dx fs)) (hp : H p = none ∨ m p) : Gr m H (upd H' p (.ins C dx fs')) := e.alt h (.inr ⟨C, dx, fs, fs', rfl, rfl⟩) hp
theorem Gr.at (e : Gr m H H') (h : H a = some o) (q : ¬ m a) : H' a = some o := (e a o h).elim id fun ⟨z, _⟩ => (q z).elim
theorem Gr.get (e : Ex H H') (h : H a = some o) : H' a = some o := e.at h id
/-- what neither a list nor an instance is -/
def still : HO → Bool
  | .lst _ => false | .ins _ _ _ => false | _ => true
theorem Gr.still (e : Gr m H H') (h : H a = some o) (s : still o = true) : H' a = some o := by
  rcases e a o h with z | ⟨_, _, z, _⟩
  · exact z
  · rcases z with ⟨_, _, rfl, _⟩ | ⟨_, _, _, _, rfl, _⟩ <;> cases s
theorem Gr.tup {xs : List V} (e : Gr m H H') (h : H a = some (.tup xs)) : H' a = some (.tup xs) := e.still h rfl
theorem Gr.ins {C dx : Addr} {fs : List (Str × V)} (e : Gr m H H') (h : H a = some (.ins C dx fs)) : ∃ fs', H' a = some (.ins C dx fs') := by
  rcases e a _ h with z | ⟨_, _, z, z2⟩
  · exact ⟨fs, z⟩
  · rcases z with ⟨_, _, q, _⟩ | ⟨_, _, _, fs', q, rfl⟩
    · cases q
    · cases q
      exact ⟨fs', z2⟩
theorem Gr.frz {ob : Obj} {u : HO} (e : Gr m H H') (h : H a = some (.frz ob u)) : H' a = some (.frz ob u) := e.still h rfl
theorem Gr.lst {xs : List V} (e : Gr m H H') (h : H a = some (.lst xs)) : ∃ ys, H' a = some (.lst ys) := by
  rcases e a _ h with z | ⟨_, _, z, z2⟩
  · exact ⟨xs, z⟩
  · rcases z with ⟨_, ys, _, rfl⟩ | ⟨_, _, _, _, q, _⟩
    · exact ⟨ys, z2⟩
    · cases q
theorem Gr.free (e : Gr m H H') (h : H' p = none) : H p = none := by
  cases q : H p with
  | none => rfl
  | some u =>
    rcases e p u q with z | ⟨_, _, _, z⟩
    · rw [h] at z
      cases z
    · rw [h] at z
      cases z
theorem Gr.seqT {xs : List V} (e : Gr m H H') (h : SqT K H a xs) : SqT K H' a xs := by
  rcases h with (h | ⟨o, h⟩) | h
  · exact .inl (.inl (e.tup h))
  · exact .inl (.inr ⟨o, e.frz h⟩)
  · exact .inr h
theorem Gr.seqL {xs : List V} (e : Gr m H H') (h : SqL K H a xs) (q : ¬ m a) : SqL K H' a xs := by
  rcases h with (h | ⟨o, h⟩) | h
  · exact .inl (.inl (e.at h q))
  · exact .inl (.inr ⟨o, e.frz h⟩)
  · exact .inr h
theorem sqT {xs : List V} (h : H a = some (.tup xs)) : SqT K H a xs := .inl (.inl h)
theorem sqL {xs : List V} (h : H a = some (.lst xs)) : SqL K H a xs := .inl (.inl h)
end
/-! ### comprehensions: any walk, each element told by R -/
theorem lc_all {J : It} {n : Nat} {G : Hp → Prop} {Y : Nat → Hp → V → Hp → Prop} (w : Walk J n G Y) (m : Addr → Prop) (I : Hp → Prop) (R : Nat → V → Hp → Prop) (hn : n ≤ 90000) {g : TG} {te : TE} {vs : List Nat} {σ : L2.St} {H : Hp} {Q : VK}
    (hG : ∀ H', Gr m H H' → G H') (hm : ∀ b, m b → H b ≠ none) (hI : I H) (hIu : ∀ H' D o, H D = none → Gr m H H' → I H' → I (upd H' D o)) (hR : ∀ i y H' H'', R i y H' → Gr any H' H'' → R i y H'')
    (hs : ∀ i x H' H'' (Q' : VK), i < n → Gr m H H' → I H' → Y i H' x H'' → (∀ y H3, Gr m H' H3 → I H3 → R i y H3 → Q' y H3) → g x (wipe σ vs) H'' fun σ2 H2 => wipe σ2 vs = wipe σ vs ∧ te σ2 H2 Q')
    (k : ∀ D ys H', H D = none → Gr m H H' → I H' → H' D = some (.lst ys) → ys.length = n → (∀ i y, ys[i]? = some y → R i y H') → Q (.ref D) H') :
    ∀ D, H D = none → ∃ W : Nat → Nat → Hp → Prop, (∃ m, W 0 m (upd H D (.lst []))) ∧ ∀ i m H, W i m H →
      (J.stop i H ∧ Q (.ref D) H) ∨ (J.go i H ∧ ∃ Nx : Hp → Prop, (∀ H', Nx H' → ∃ m', m' < m ∧ W (i + 1) m' H') ∧ ∀ x H', J.yld i H x H' → g x (wipe σ vs) H' fun σ2 H2 => wipe σ2 vs = wipe σ vs ∧ tYes σ2 H2 fun b H3 =>
        if b = true then te σ2 H3 fun y H4 => ∃ acc, H4 D = some (.lst acc) ∧ acc.length < sizeLine ∧ Nx (upd H4 D (.lst (acc ++ [y]))) else Nx H3) := fun D hD => by
  have nD : ¬ m D := fun z => hm D z hD
  refine lc_it w (fun i H' => Gr m H H' ∧ I H' ∧ ∃ ys, H' D = some (.lst ys) ∧ ys.length = i ∧ ∀ j y, ys[j]? = some y → R j y H') ⟨.new hD, hIu H D _ hD .refl hI, [], upd_same, rfl, fun j y h => by simp at h⟩ (fun i H' _ p => hG H' p.1) ?_ ?_
  · rintro i x H' H'' hi ⟨p1, p2, ys, p3, p4, p5⟩ hY
    refine hs i x H' H'' _ hi p1 p2 hY fun y H3 g1 g2 g3 => ?_
    have e3 := g1.at p3 nD
    refine ⟨ys, e3, smallt (by omega), (p1.trans g1).put e3 (.inl hD), hIu _ D _ hD (p1.trans g1) g2, _, upd_same, by rw [List.length_append, p4]; rfl, fun j z hz => ?_⟩
    have gu : Gr any H3 (upd H3 D (.lst (ys ++ [y]))) := Gr.refl.put e3 (.inr trivial)
    by_cases hj : j < ys.length
    · rw [List.getElem?_append_left hj] at hz
      exact hR j z _ _ (p5 j z hz) (g1.any.trans gu)
    · rw [List.getElem?_append_right (by omega)] at hz
      have hj2 : j - ys.length = 0 := by
        cases q : j - ys.length with
        | zero => rfl
        | succ r =>
          rw [q] at hz
          simp at hz
      rw [hj2] at hz
      cases hz
      have ej : j = i := by omega
      subst ej
      exact hR _ _ _ _ g3 gu
  · rintro H' ⟨p1, p2, ys, p3, p4, p5⟩
    exact k D ys H' hD p1 p2 p3 p4 p5
theorem tJs_nil {acc : Str} {σ : L2.St} {H : Hp} {Q : Str → Hp → Prop} : tJs [] acc σ H Q = Q acc H := rfl
theorem tJs_cons {t : TE} {ts : List TE} {acc : Str} {σ : L2.St} {H : Hp} {Q : Str → Hp → Prop} : tJs (t :: ts) acc σ H Q = t σ H fun x H1 => ∃ y : Str, x = .str y ∧ (acc ++ y).length ≤ sizeLine ∧ tJs ts (acc ++ y) σ H1 Q := rfl
theorem scal_ii {a b : Int} : scal (.int a) (.int b) = true := rfl
theorem scal_ss {a b : Str} : scal (.str a) (.str b) = true := rfl
theorem scal_bb {a b : Bool} : scal (.bl a) (.bl b) = true := rfl
/-! ### values by their type -/
inductive Tg | int | bl | str | tup | oth
  deriving DecidableEq
def Tg.int? : Tg → Bool | .int => true | .bl => true | _ => false
structure TyOk (K : PySem.W.Frag) (t : Value) (g : Tg) : Prop where
  i : PySem.W.kitOne K t (.type "int") = some g.int?
  b : PySem.W.kitOne K t (.type "bool") = some (decide (g = .bl))
  s : PySem.W.kitOne K t (.type "str") = some (decide (g = .str))
  t : PySem.W.kitOne K t (.type "tuple") = some (decide (g = .tup))
/-- v is of a type that g tells -/
def Tyd (K : PySem.W.Frag) (H : Hp) (v : V) (g : Tg) : Prop := ∃ t, TyX K H v t ∧ TyOk K t g
section
variable {K : PySem.W.Frag} {H : Hp} {a : Addr}
theorem tyok_int : TyOk K (.type "int") .int := ⟨kit_ty (by decide +kernel), kit_ty (by decide +kernel), kit_ty (by decide +kernel), kit_ty (by decide +kernel)⟩
theorem tyok_bl : TyOk K (.type "bool") .bl := ⟨kit_ty (by decide +kernel), kit_ty (by decide +kernel), kit_ty (by decide +kernel), kit_ty (by decide +kernel)⟩
theorem tyok_str : TyOk K (.type "str") .str := ⟨kit_ty (by decide +kernel), kit_ty (by decide +kernel), kit_ty (by decide +kernel), kit_ty (by decide +kernel)⟩
theorem tyok_tup : TyOk K (.type "tuple") .tup := ⟨kit_ty (by decide +kernel), kit_ty (by decide +kernel), kit_ty (by decide +kernel), kit_ty (by decide +kernel)⟩
theorem tyok_lst : TyOk K (.type "list") .oth := ⟨kit_ty (by decide +kernel), kit_ty (by decide +kernel), kit_ty (by decide +kernel), kit_ty (by decide +kernel)⟩
theorem tyok_dct : TyOk K (.type "dict") .oth := ⟨kit_ty (by decide +kernel), kit_ty (by decide +kernel), kit_ty (by decide +kernel), kit_ty (by decide +kernel)⟩
theorem tyok_non : TyOk K (.type "NoneType") .oth := ⟨kit_ty (by decide +kernel), kit_ty (by decide +kernel), kit_ty (by decide +kernel), kit_ty (by decide +kernel)⟩
theorem tyd_int (i : Int) : Tyd K H (.int i) .int := ⟨_, .base (.int i), tyok_int⟩
theorem tyd_bl (b : Bool) : Tyd K H (.bl b) .bl := ⟨_, .base (.bl b), tyok_bl⟩
theorem tyd_str (s : Str) : Tyd K H (.str s) .str := ⟨_, .base (.str s), tyok_str⟩
theorem tyd_non : Tyd K H .non .oth := ⟨_, .base .non, tyok_non⟩
theorem tyd_tup {xs : List V} (h : H a = some (.tup xs)) : Tyd K H (.ref a) .tup := ⟨_, .base (.tup h), tyok_tup⟩
theorem tyd_lst {xs : List V} (h : H a = some (.lst xs)) : Tyd K H (.ref a) .oth := ⟨_, .base (.lst h), tyok_lst⟩
/-- isinstance(v, T), read -/
theorem isi_int {v : V} {g : Tg} {Q : VK} (h : Tyd K H v g) (q : Q (.bl g.int?) H) : rIsi K [v, .ty "int"] H Q := by
  obtain ⟨t, h1, h2⟩ := h
  exact ⟨v, .ty "int", t, .type "int", _, rfl, .ty _, h1, h2.i, q⟩
theorem isi_bl {v : V} {g : Tg} {Q : VK} (h : Tyd K H v g) (q : Q (.bl (decide (g = .bl))) H) : rIsi K [v, .ty "bool"] H Q := by
  obtain ⟨t, h1, h2⟩ := h
  exact ⟨v, .ty "bool", t, .type "bool", _, rfl, .ty _, h1, h2.b, q⟩
theorem isi_str {v : V} {g : Tg} {Q : VK} (h : Tyd K H v g) (q : Q (.bl (decide (g = .str))) H) : rIsi K [v, .ty "str"] H Q := by
  obtain ⟨t, h1, h2⟩ := h
  exact ⟨v, .ty "str", t, .type "str", _, rfl, .ty _, h1, h2.s, q⟩
theorem isi_tup {v : V} {g : Tg} {Q : VK} (h : Tyd K H v g) (q : Q (.bl (decide (g = .tup))) H) : rIsi K [v, .ty "tuple"] H Q := by
  obtain ⟨t, h1, h2⟩ := h
  exact ⟨v, .ty "tuple", t, .type "tuple", _, rfl, .ty _, h1, h2.t, q⟩
end
end Z
namespace Z
open PySem PySem.Spec PyProof.Rows L2
/-! ### data: atoms and tuples, and other things by their type alone -/
inductive D | non | bl (b : Bool) | int (i : Int) | str (s : Str) | tup (l : List D) | oth
def D.tg : D → Tg
  | .non => .oth | .bl _ => .bl | .int _ => .int | .str _ => .str | .tup _ => .tup | .oth => .oth
mutual
inductive DT (K : PySem.W.Frag) (H : Hp) : V → D → Prop
  | non : DT K H .non .non
  | bl (b : Bool) : DT K H (.bl b) (.bl b)
  | int (i : Int) : DT K H (.int i) (.int i)
  | str (s : Str) : DT K H (.str s) (.str s)
  | tup {a : Addr} {xs : List V} {ds : List D} : SqT K H a xs → DTs K H xs ds → DT K H (.ref a) (.tup ds)
  | oth {v : V} : Tyd K H v .oth → DT K H v .oth
inductive DTs (K : PySem.W.Frag) (H : Hp) : List V → List D → Prop
  | nil : DTs K H [] []
  | cons {v : V} {vs : List V} {d : D} {ds : List D} : DT K H v d → DTs K H vs ds → DTs K H (v :: vs) (d :: ds)
end
section
variable {K : PySem.W.Frag} {H : Hp} {v : V} {d : D} {a : Addr}
theorem tyd_sqT {xs : List V} (h : SqT K H a xs) : Tyd K H (.ref a) .tup := by
  rcases h with (h | ⟨o, h⟩) | h
  · exact tyd_tup h
  · exact ⟨_, .fTuple h, tyok_tup⟩
  · obtain ⟨o, its, n, h1, h2, _⟩ := h
    exact ⟨_, .kTuple h1 h2, tyok_tup⟩
theorem Tyd.oth_mono {H' : Hp} {g : Tg} (h : Tyd K H v g) (e : Gr any H H') : Tyd K H' v g := by
  obtain ⟨t, h1, h2⟩ := h
  refine ⟨t, ?_, h2⟩
  cases h1 with
  | base b =>
    cases b with
    | non => exact .base .non
    | bl b => exact .base (.bl b)
    | int i => exact .base (.int i)
    | str s => exact .base (.str s)
    | flt y => exact .base (.flt y)
    | lst q =>
      obtain ⟨ys, z⟩ := e.lst q
      exact .base (.lst z)
    | frz q => exact .base (.frz (e.frz q))
    | tup q => exact .base (.tup (e.tup q))
    | dK q => exact .base (.dK (e.still q rfl))
    | dT q => exact .base (.dT (e.still q rfl))
    | ins q c k1 k2 k3 k4 =>
      obtain ⟨fs', z⟩ := e.ins q
      exact .base (.ins z c k1 k2 k3 k4)
  | byt b => exact .byt b
  | set q => exact .set (e.still q rfl)
  | kList q c => exact .kList q c
  | kTuple q c => exact .kTuple q c
  | kDict q c => exact .kDict q c
  | fTuple q => exact .fTuple (e.frz q)
  | fDict q => exact .fDict (e.frz q)
mutual
theorem DT.mono {H' : Hp} {v : V} {d : D} (h : DT K H v d) (e : Gr any H H') : DT K H' v d := by
  cases h with
  | non => exact .non
  | bl b => exact .bl b
  | int i => exact .int i
  | str s => exact .str s
  | tup h hs => exact .tup (e.seqT h) (DTs.mono hs e)
  | oth h => exact .oth (h.oth_mono e)
theorem DTs.mono {H' : Hp} {vs : List V} {ds : List D} (h : DTs K H vs ds) (e : Gr any H H') : DTs K H' vs ds := by
  cases h with
  | nil => exact .nil
  | cons h hs => exact .cons (DT.mono h e) (DTs.mono hs e)
end
theorem DT.tyd (h : DT K H v d) : Tyd K H v d.tg := by
  cases h with
  | non => exact tyd_non
  | bl b => exact tyd_bl b
  | int i => exact tyd_int i
  | str s => exact tyd_str s
  | tup h _ => exact tyd_sqT h
  | oth h => exact h
end
def D.isInt : D → Bool
  | .int _ => true | _ => false
def D.isNum : D → Bool
  | .int i => decide (0 ≤ i) | _ => false
def D.isIn (d : D) (lo hi : Int) : Bool := match d with
  | .int i => decide (lo ≤ i) && decide (i ≤ hi) | _ => false
theorem D.isInt_of (d : D) : d.isInt = (d.tg.int? && !(decide (d.tg = .bl))) := by cases d <;> rfl
theorem D.isInt_some {d : D} (h : d.isInt = true) : ∃ i, d = .int i := by
  cases d <;> first | exact ⟨_, rfl⟩ | cases h
theorem D.isNum_no {d : D} (h : d.isInt = false) : d.isNum = false := by
  cases d <;> first | rfl | cases h
theorem D.isIn_no {d : D} {lo hi : Int} (h : d.isInt = false) : d.isIn lo hi = false := by
  cases d <;> first | rfl | cases h
/-! ### names -/
def lower (c : Nat) : Bool := decide (97 ≤ c) && decide (c ≤ 122)
def lowdig (c : Nat) : Bool := lower c || (decide (48 ≤ c) && decide (c ≤ 57))
def nameOk (s : Str) : Bool := decide (1 ≤ s.length) && decide (s.length ≤ 8) && (match s.cps.toList with
  | [] => false
  | c :: _ => lower c) && s.cps.toList.all lowdig
def D.isName : D → Bool
  | .str s => nameOk s | _ => false
/-- a text that the machine can measure -/
def D.fits : D → Prop
  | .str s => s.length ≤ 100000 | _ => True
end Z
namespace Z
open PySem PySem.Spec PyProof.Rows L2
section
variable {K : PySem.W.Frag} {g : TG} {te : TE} {vs : List Nat} {σ : L2.St} {H : Hp} {Q : VK}
/-- [e for c in z], z a text: e of each sign is f c -/
theorem lc_str {i : Nat} {z : Str} (hi : σ[i]? = some (some (.str z))) (hz : z.length ≤ 90000) (f : Nat → V)
    (hs : ∀ c H' (Q' : VK), c ∈ z.cps.toList → Ex H H' → (∀ H3, Ex H' H3 → Q' (f c) H3) → g (.str ⟨#[c]⟩) (wipe σ vs) H' fun σ2 H2 => wipe σ2 vs = wipe σ vs ∧ te σ2 H2 Q')
    (k : ∀ D H', H D = none → Ex H H' → H' D = some (.lst (z.cps.toList.map f)) → Q (.ref D) H') : tLc (iStr (tVar i)) g tYes te vs σ H Q := by
  refine ⟨.str z, hi, z, rfl, lc_all (H := H) walk_str nob (fun _ => True) (fun i y _ => ∃ c, z.cps[i]? = some c ∧ y = f c) hz (fun _ _ => trivial) (fun _ q => q.elim) trivial (fun _ _ _ _ _ _ => trivial) (fun _ _ _ _ q _ => q) ?_ ?_⟩
  · rintro i x H' H'' Q' hi g1 _ ⟨rfl, c, h1, rfl⟩ q
    exact hs c _ Q' (by rw [← Array.getElem?_toList] at h1; exact List.mem_of_getElem? h1) g1 fun H3 e => q _ H3 e trivial ⟨c, h1, rfl⟩
  · intro D ys H' hD e _ h1 h2 h3
    refine k D H' hD e ?_
    have ey : ys = z.cps.toList.map f := by
      refine List.ext_getElem? fun i => ?_
      by_cases h : i < ys.length
      · obtain ⟨c, h4, h5⟩ := h3 i ys[i] (List.getElem?_eq_getElem h)
        rw [← Array.getElem?_toList] at h4
        rw [List.getElem?_map, h4, List.getElem?_eq_getElem h, h5]
        rfl
      · rw [List.getElem?_eq_none (by omega), List.getElem?_eq_none (by rw [List.length_map, Array.length_toList]; omega)]
    rw [← ey]
    exact h1
end
theorem letters_eq : (Str.ofString "abcdefghijklmnopqrstuvwxyz").cps.toList = [97, 98, 99, 100, 101, 102, 103, 104, 105, 106, 107, 108, 109, 110, 111, 112, 113, 114, 115, 116, 117, 118, 119, 120, 121, 122] := by decide +kernel
theorem lettersdigits_eq : (Str.ofString "abcdefghijklmnopqrstuvwxyz0123456789").cps.toList = [97, 98, 99, 100, 101, 102, 103, 104, 105, 106, 107, 108, 109, 110, 111, 112, 113, 114, 115, 116, 117, 118, 119, 120, 121, 122, 48, 49, 50, 51, 52, 53, 54, 55, 56, 57] := by decide +kernel
theorem in_letters (c : Nat) : decide (c ∈ (Str.ofString "abcdefghijklmnopqrstuvwxyz").cps.toList) = lower c := by
  rw [letters_eq]
  unfold lower
  rw [Bool.eq_iff_iff]
  simp only [decide_eq_true_eq, Bool.and_eq_true, List.mem_cons, List.not_mem_nil, or_false]
  omega
theorem in_lettersdigits (c : Nat) : decide (c ∈ (Str.ofString "abcdefghijklmnopqrstuvwxyz0123456789").cps.toList) = lowdig c := by
  rw [lettersdigits_eq]
  unfold lowdig lower
  rw [Bool.eq_iff_iff]
  simp only [decide_eq_true_eq, Bool.and_eq_true, Bool.or_eq_true, List.mem_cons, List.not_mem_nil, or_false]
  omega
theorem nameOk_iff {s : Str} {c : Nat} {r : List Nat} (h : s.cps.toList = c :: r) : nameOk s = (decide (s.length ≤ 8) && lower c && s.cps.toList.all lowdig) := by
  unfold nameOk
  rw [h]
  have e : s.length = r.length + 1 := by
    have e := congrArg List.length h
    rw [Array.length_toList, List.length_cons] at e
    exact e
  have e1 : decide (1 ≤ s.length) = true := decide_eq_true (by omega)
  rw [e1, Bool.true_and]
theorem nameOk_len {s : Str} (h : nameOk s = true) : 1 ≤ s.length ∧ s.length ≤ 8 := by
  unfold nameOk at h
  simp only [Bool.and_eq_true, decide_eq_true_eq] at h
  exact h.1.1
end Z

namespace PySem
namespace ErrL
open PySem.W PySem.Calls PyProof.Rows PySem.HandSPX
/-! ### the text of __init__ -/
def iA (p1 p2 : Pos) : Arguments := { posonlyargs := [], args := [{ arg := "self", annotation := none, pos := p1 }, { arg := "limit", annotation := none, pos := p2 }], vararg := none, kwonlyargs := [], kw_defaults := [], kwarg := none, defaults := [] }
def iB (q1 q2 q3 q4 : Pos) : List Stmt := [.Assign [.Attribute (.Name "self" q1) "limit" q2] (.Name "limit" q3) q4]
def iS : Scope := { kind := .function, names := [(PySem.Str.ofString "self", .local), (PySem.Str.ofString "limit", .local)], isGenerator := false, isCoroutine := false, more := [] }
abbrev aeT : List Value := [.type "ArithmeticError", .type "Exception", .type "BaseException", .type "object"]
/-- what the written part says of Low, at C, and of its __init__, at fI -/
structure ErTxt (K : Frag) (mg : Str → Option Value) (n q : Str) (C fI : Addr) : Prop where
  gC : mg n = some (.ref C)
  cls : excInitIn K C aeT "ArithmeticError.__new__" = true
  ov : excOver K C aeT = true
  tk : takerIn K C "limit" = some none
  sa : findIn K (.ref C) "__setattr__" = some (some (.builtin "object.__setattr__"))
  ga : findIn K (.ref C) "__getattribute__" = some (some (.builtin "BaseException.__getattribute__"))
  gg : findIn K (.ref C) "__getattr__" = some none
  noN : findIn K (.ref C) "limit" = some none
  iC : findIn K (.ref C) "__init__" = some (some (.ref fI))
  tC : typeIn K (.ref fI) = some (.type "function")
  kC : keepIn K (.ref C) = true
  exC : subIn K (.ref C) (.type "BaseException") = some true
  tyC : typeIn K (.ref C) = some (.type "type")
  hdC : hasDictIn K C = true
  te : exmOne K (.ref C) (.ref C) = some true
  fn : ∃ (oc : Value) (od : Option Addr) (kV doc pm : Value) (an : Option Addr) (cdv ct : Value) (osl : Array (Option Value)) (p1 p2 q1 q2 q3 q4 : Pos),
    K.lookup fI = some ⟨oc, od, .func (fnOf "__init__" q (iA p1 p2) (iB q1 q2 q3 q4) iS .none kV doc pm an cdv ct), osl⟩ ∧ codeIn K cdv q = true
theorem one_size (v : Value) : [v].length ≤ sizeLine := by
  rw [sizeLine_eq]
  exact (by decide : 1 ≤ 16777216)
theorem kept_but {K : Frag} {h h' : Heap} {x : Addr} (X : K.In h) (hx : K.lookup x = none) (k : ∀ b o, b ≠ x → h.get? b = some o → h'.get? b = some o) : K.In h' := fun a o e =>
  k a o (fun z => by rw [z, hx] at e; cases e) (X a o e)
theorem ldC {M : Model} {s : Shared} {name : Str} {scope : Scope} {L a : Addr} {cd : Value} {m : Str → Option Value} {x : Str} {pos : Pos} {v : Value} {Q : Value → Shared → Prop} {A : Around} {E : Value → Shared → Prop} (hn : s.heap.Ns L m) (hv : m x = some v) (h : Q v s)
    (hk : scope.kind = .function := by rfl) (hl : (envOfC name scope L a cd).kindOf x = some .local := by rfl) (hd : (x == ("__debug__" : Str)) = false := by decide) :
    wpAny M A (eval (.Name x pos) (envOfC name scope L a cd)) Q E s := wpAny_Name (wpAny_loadName_local hk hl hn hv h) hd
/-- what __init__ leaves of a fresh exception at x -/
structure InitEnd (h h' : Heap) (x C dx t1 : Addr) (v : Value) : Prop where
  keep : ∀ b o, b ≠ x → h.get? b = some o → h'.get? b = some o
  obj : h'.get? x = some { cls := .ref C, dict := some dx, data := .fields #[.ref t1, .none, .none, .none, .bool false, .none] }
  dbig : h.objs.size ≤ dx
  dne : dx ≠ x
  ns : h'.Ns1 dx (fun y => if y = "limit" then some v else none)
/-- a made Low -/
structure OwnMade (h h' : Heap) (e C d : Addr) (v : Value) : Prop where
  keep : ∀ b o, h.get? b = some o → h'.get? b = some o
  new : h.objs.size ≤ e
  obj : ∃ oe vs, h'.get? e = some oe ∧ oe.cls = .ref C ∧ oe.dict = some d ∧ oe.data = .fields vs ∧ vs[1]? = some .none ∧ vs[2]? = some .none
  dbig : h.objs.size ≤ d
  dne : d ≠ e
  ns : h'.Ns1 d (fun y => if y = "limit" then some v else none)
section
variable {prog : Program} {w : World} {A : Around} {E : Value → Shared → Prop} {R : Result → Shared → Prop} {s : Shared} {K : Frag} {mg : Str → Option Value} {n q : Str} {C fI : Addr}
theorem er_init (T : ErTxt K mg n q C fI) {x t0 : Addr} {v : Value} (X : K.In s.heap) (hlim : s.heap.NoLimit) (hx : s.heap.get? x = some (excO C t0)) (hnx : K.lookup x = none) (hroom : A.depth < recursionLimit)
    (hq : ∀ h' tk dx, InitEnd s.heap h' x C dx t0 v → R (.ok (.ret .none)) { s with heap := h', toks := tk }) :
    codeAny (model prog w) A (.call (.ref fI) ⟨[.ref x, v], []⟩) R s := by
  obtain ⟨oc, od, kV, doc, pm, an, cdv, ct, osl, p1, p2, q1, q2, q3, q4, ho, hcd⟩ := T.fn
  refine Att.call_fn (binds := [("self", .ref x), ("limit", v)]) X hlim ho hcd hroom (BindsTo.of_eq (by first | rfl | with_unfolding_all rfl)) (by first | rfl | decide | with_unfolding_all rfl) (fun s₁ IC => ?_) rfl rfl rfl
  obtain ⟨h₁, tk₁, rfl⟩ := IC.toInCall.same
  have k : ∀ b o, s.heap.get? b = some o → h₁.get? b = some o := IC.toInCall.keep
  have hn := IC.toInCall.ns
  have hxL : s.heap.objs.size ≠ x := Nat.ne_of_gt (Heap.lt_size hx)
  have X₁ : K.In h₁ := X.keeps k
  have hx₁ := k _ _ hx
  -- self.by = by
  show wpAny _ _ (execs _ _) _ _ _
  refine wpAny_execs_cons (plainObj_wpAny_Assign_Attribute ?_)
  refine ldC (v := v) hn (by first | rfl | with_unfolding_all rfl | kernel_rfl) (ldC (v := .ref x) hn (by first | rfl | with_unfolding_all rfl | kernel_rfl) ?_)
  refine set_plain X₁ (ox := excO C t0) (od := none) ⟨hx₁, rfl, rfl, trivial⟩ T.sa ?_
  refine osa_openX (od := none) F.store_ArithmeticError X₁ ⟨hx₁, rfl, rfl, trivial⟩ T.ov T.tk fun b => ?_
  obtain ⟨cd, hc, hd⟩ := any_some T.hdC
  have hxs : x < h₁.objs.size := Heap.lt_size hx₁
  refine wpAny_bind (wpAny_pure (wpAny_bind (instanceDict_exc hx₁ (looks_clsIn X₁ hc) hd ?_)))
  show wpAny _ _ (PySem.Builtin.ObjectAttr.storeInDict _ (.str _ _) _ v) _ _ _
  refine store_in_new ⟨dictOf [] 0, #[], _, (Heap.get?_update_ne _ _ _ _ (Nat.ne_of_gt hxs)).trans (Heap.get?_push_size _ rfl), rfl, fun e he => absurd he (by simp), fun _ => rfl⟩ fun h₃ tk₃ hn₃ sb => ?_
  have dne : h₁.objs.size ≠ x := Nat.ne_of_gt hxs
  have k₃ : ∀ b o, b ≠ x → h₁.get? b = some o → h₃.get? b = some o := fun b o hb ho => (sb.2 b (Nat.ne_of_lt (Heap.lt_size ho))).trans ((Heap.get?_update_ne _ _ _ _ hb).trans (Heap.get?_push_of_some _ ho))
  have hx₃ := (sb.2 x (Nat.ne_of_lt hxs)).trans (Heap.get?_update_self _ (Heap.get?_push_of_some _ hx₁) rfl)
  have dn : h₁.objs.size ≤ h₁.objs.size := Nat.le_refl _
  show wpAny _ _ (execs _ _) _ _ _
  have z : s.heap.objs.size < h₁.objs.size := hn.lt
  exact wpAny_execs_nil (hq h₃ tk₃ _ ⟨fun b o hb e => k₃ b o hb (k b o e), hx₃, Nat.le_of_lt (Nat.lt_of_lt_of_le z dn), dne, hn₃⟩)
theorem er_made (T : ErTxt K mg n q C fI) {v : Value} (X : K.In s.heap) (hlim : s.heap.NoLimit) (hroom : A.depth + 1 < recursionLimit)
    (hq : ∀ h' tk e d, OwnMade s.heap h' e C d v → R (.ok (.ret (.ref e))) { s with heap := h', toks := tk }) :
    codeAny (model prog w) A (.call (.ref C) ⟨[v], []⟩) R s := by
  obtain ⟨nm, N, qq, bs, bm, hdct, sn, sub, ab, col, dd, k0, k1, k2, k3, k5, hC, hbm⟩ := excInit_of X T.cls
  obtain ⟨hp, g, dr, tk, os⟩ := s
  have k : ∀ b o, hp.get? b = some o → ((hp.push (kdv_tup [v])).push (excO C hp.objs.size)).get? b = some o := fun b o e => Heap.get?_push_of_some _ (Heap.get?_push_of_some _ e)
  have hget : ((hp.push (kdv_tup [v])).push (excO C hp.objs.size)).get? (hp.objs.size + 1) = some (excO C hp.objs.size) := by heap_get
  have hnx : K.lookup (hp.objs.size + 1) = none := by
    cases e : K.lookup (hp.objs.size + 1) with
    | none => rfl
    | some o =>
      have z : hp.get? (hp.objs.size + 1) = some o := X _ _ e
      exact absurd (Nat.lt_of_succ_lt (Heap.lt_size z)) (Nat.lt_irrefl _)
  refine call_own F.excBase_ArithmeticError hbm hC (looks_findIn X T.iC) (fun self => bind_fn X self T.tC) (one_size v) ?_
  refine er_init (s := ⟨(hp.push (kdv_tup [v])).push (excO C hp.objs.size), g, dr, tk, os⟩) T (X.keeps k) (hlim.keeps k) hget hnx ?_ fun h' tk' dx ⟨k', hx, dn, dne, hns⟩ => ?_
  · show A.depth + 1 < recursionLimit
    exact hroom
  · have old : ∀ b o, hp.get? b = some o → h'.get? b = some o := fun b o e => k' b o (Nat.ne_of_lt (Nat.lt_succ_of_lt (Heap.lt_size e))) (k b o e)
    have z : hp.objs.size + 1 + 1 ≤ dx := by
      first
        | (simpa only [Heap.size_push] using dn)
        | exact dn
        | (have q := dn; rw [Heap.size_push, Heap.size_push] at q; exact q)
    exact ⟨rfl, hq h' tk' (hp.objs.size + 1) dx ⟨old, Nat.le_succ _, ⟨_, _, hx, rfl, rfl, rfl, rfl, rfl⟩, Nat.le_trans (Nat.le_trans (Nat.le_succ _) (Nat.le_succ _)) z, dne, hns⟩⟩
end
end ErrL
end PySem
namespace L2
open PySem PySem.Spec PyProof.Rows
theorem relO_erL {v : V} {v' : Value} (r : RelV v v') (f : Str) : RelO (List.lookup f [(("limit" : Str), v)]) (if f = "limit" then some v' else none) := by
  by_cases hw : f = "limit"
  · subst hw
    rw [if_pos rfl]
    have q : List.lookup ("limit" : Str) [(("limit" : Str), v)] = some v := by simp [List.lookup]
    rw [q]
    exact r
  · rw [if_neg hw]
    have qw : (f == ("limit" : Str)) = false := by simpa using hw
    have q2 : List.lookup f [(("limit" : Str), v)] = none := by simp [List.lookup, qw]
    rw [q2]
    trivial
section
variable {X : Cx} {n q : Str} {C fI : Addr}
/-- Low(e) -/
def tMkErL (C : Addr) (ta : TA) : St → Hp → XK → Prop := fun σ H Q => ta σ H fun vs H1 => ∃ v, vs = [v] ∧ ∀ d, H1 d = none → Q (.ref C) (some d) (upd H1 d (.xd [(("limit" : Str), v)]))
theorem pmk_erL {a : Expr} {ta : TA} {p pos : Pos} {k : Nat} (T : PySem.ErrL.ErTxt X.K X.mg n q C fI) (hr : Room k X.A) (ha : PA X [a] ta) (hg : Gl X n) (hdb : (n == ("__debug__" : Str)) = false := by decide)
    (he : starEach (a :: []) X.env = (false, eval a X.env) :: starEach [] X.env := by rfl) (hpl : (backTo pos (starEach [] X.env)).any (·.1) = false := by rfl) :
    L2N.PMk X (.Call (.Name n p) [a] [] pos) (tMkErL C ta) := by
  intro pins s σ H Q I h
  refine wpAny_Call_Name_kw (ld_glob I hg T.gC ?_ hdb)
  refine PySem.W.callWith_K (h₀ := X.base) I.ok.mod.kin T.kC (thn (ha.run pos pins s σ H _ I h) fun us s1 hh => ?_) he hpl
  obtain ⟨vs, H1, I1, r1, v, ev, q1⟩ := hh
  subst ev
  refine ⟨I1.kIn, ?_⟩
  cases r1 with
  | cons rv rn =>
    rename_i v' us'
    cases rn
    show wpAny _ _ (call (.ref C) [v']) _ _ _
    have hlim := I1.nolimit
    obtain ⟨hp, g, dr, tk, os⟩ := s1
    refine wpAny_call (PySem.ErrL.er_made T I1.kIn hlim (by have := hr.dp; omega) fun h' tk' e d M => ?_)
    show L2N.MkP X pins σ Q (.ref e) ⟨h', g, dr, tk', os⟩
    obtain ⟨oe, fv, hoe, hc, hd, hdat, h1, h2⟩ := M.obj
    have hns := M.ns
    obtain ⟨G', g1, g2⟩ := restrict h' fun b => decide (b ≠ e)
    have gk : ∀ b, b ≠ e → G'.get? b = h'.get? b := fun b hb => g1 b (decide_eq_true hb)
    have ge : G'.get? e = none := g2 e (by simp)
    have old : ∀ b o, hp.get? b = some o → G'.get? b = some o := fun b o q => (gk b (Nat.ne_of_lt (Nat.lt_of_lt_of_le (Heap.lt_size q) M.new))).trans (M.keep b o q)
    have ob : ObjOk X.prog X.w (upd H1 d (.xd [(("limit" : Str), v)])) G' d (.xd [(("limit" : Str), v)]) :=
      ⟨_, hns.at (fun o q => (gk d M.dne).trans q), fun f => relO_erL rv f⟩
    have J : Inv X pins σ (upd H1 d (.xd [(("limit" : Str), v)])) ⟨G', g, dr, tk', os⟩ := I1.laid (t' := tk') old M.dbig ob
    refine ⟨e, oe, fv, ⟨G', g, dr, tk', os⟩, _, .ref C, some d, rfl, J, fun b o q => ?_, ge, hoe, ⟨hc, hd, fun ws hw => by rw [hdat] at hw; cases hw; exact h2⟩, hdat, h1, ?_, rfl, I1.bare, raises_own T.exC T.tyC, q1 d (I1.hok.fresh M.dbig)⟩
    · by_cases hb : b = e
      · have q' : G'.get? b = some o := q
        rw [hb, ge] at q'; cases q'
      · exact (gk b hb).symm.trans q
    · rw [upd_ne (Ne.symm M.dne)]
      exact I1.hok.fresh M.new
/-- raise Low(e) -/
def tRaiseErL (C : Addr) (W : WX) (ta : TA) : TS := fun _ σ H => tMkErL C ta σ H fun cls d H' => W cls d σ H'
theorem ps_raiseErL {a : Expr} {ta : TA} {W : WX} {p pos pos2 : Pos} {k : Nat} (hc : X.calm = true) (T : PySem.ErrL.ErTxt X.K X.mg n q C fI) (hr : Room k X.A) (tk : L2N.Takes X W) (ha : PA X [a] ta) (hg : Gl X n) (hdb : (n == ("__debug__" : Str)) = false := by decide)
    (he : starEach (a :: []) X.env = (false, eval a X.env) :: starEach [] X.env := by rfl) (hpl : (backTo pos (starEach [] X.env)).any (·.1) = false := by rfl) :
    PS X (.Raise (some (.Call (.Name n p) [a] [] pos)) none pos2) (tRaiseErL C W ta) := L2N.ps_raise hc tk (pmk_erL T hr ha hg hdb he hpl)
/-- low.by, low the exception that the suite holds (at a; its class cls, its dict d) -/
def tFldErL (C : Addr) (a : Addr) (cls : Value) (d : Option Addr) (te : TE) : TE := fun σ H Q => te σ H fun x H1 => x = .ref a ∧ cls = .ref C ∧ ∃ (dd : Addr) (v : V), d = some dd ∧ H1 dd = some (.xd [(("limit" : Str), v)]) ∧ Q v H1
theorem pe_fldErL {a : Addr} {oe : Obj} {cls : Value} {d : Option Addr} {pn : List (Addr × Obj)} {e : Expr} {te : TE} {pos : Pos} (T : PySem.ErrL.ErTxt X.K X.mg n q C fI) (hz : Zc cls d oe) (hf : ∃ vs, oe.data = .fields vs) (he : PE (X.suite a ((a, oe) :: pn)) e te)
    (hb : attributeBase e "limit" X.env (eval e X.env) = eval e X.env := by rfl) :
    PE (X.suite a ((a, oe) :: pn)) (.Attribute e "limit" pos) (tFldErL C a cls d te) := by
  refine ⟨fun pins s σ H Q I h => ?_⟩
  refine attr_of hb (thn (he.run pins s σ H _ I h) fun u s1 hh => ?_)
  obtain ⟨x, H1, I1, rx, ex, ec, dd, v, ed, ea, q⟩ := hh
  subst ex
  obtain rfl : u = Value.ref a := rx
  subst ec
  subst ed
  obtain ⟨ha, _⟩ := I1.pin (a, oe) (List.mem_append_left _ List.mem_cons_self)
  obtain ⟨vs, hd⟩ := hf
  have hx : ObjOk X.prog X.w H1 s1.heap dd (.xd [(("limit" : Str), v)]) := I1.hok dd _ ea
  obtain ⟨mA, hns, hr⟩ := hx
  obtain ⟨od, ho, hl⟩ := lookIn_ns hns
  have l : List.lookup ("limit" : Str) [(("limit" : Str), v)] = some v := by simp [List.lookup]
  obtain ⟨u, hu, ru⟩ := RelO.some_of (v := v) (o := mA "limit") (by rw [← l]; exact hr "limit")
  have J : PySem.W.InstAt s1.heap a oe C (some od) := ⟨ha, hz.1, by unfold PySem.W.notCls; rw [hd] <;> rfl, by rw [hz.2]; exact ho⟩
  exact HandSPX.exc_get I1.kIn J T.ga T.gg T.exC (PySem.W.findObj_own T.hdC T.noN rfl (by rw [hl, hu])) (handed_of ru) ⟨v, H1, I1.tok _, ru, q⟩
end
end L2

namespace PySem
namespace ErrL
-- facts
open PySem.W L2 He PySem.HandSPX PySem.Calls PyProof.Rows
/-- what the head must tell of such a class -/
def erB (K : Frag) (C fI : Addr) : Bool := [excInitIn K C aeT "ArithmeticError.__new__", excOver K C aeT, decide (takerIn K C "limit" = some none), eqO (findIn K (.ref C) "__setattr__") (some (some (.builtin "object.__setattr__"))),
  eqO (findIn K (.ref C) "__getattribute__") (some (some (.builtin "BaseException.__getattribute__"))), eqO (findIn K (.ref C) "__getattr__") (some none), eqO (findIn K (.ref C) "limit") (some none), eqO (findIn K (.ref C) "__init__") (some (some (.ref fI))),
  decide (typeIn K (.ref fI) = some (.type "function")), keepIn K (.ref C), decide (subIn K (.ref C) (.type "BaseException") = some true), decide (typeIn K (.ref C) = some (.type "type")), hasDictIn K C, decide (exmOne K (.ref C) (.ref C) = some true)].all id
theorem er_of {K : Frag} {mg : Str → Option Value} {n q : Str} {C fI : Addr} {fd : FuncData} {p1 p2 q1 q2 q3 q4 : Pos} (g : mg n = some (.ref C)) (F : FunD K "__init__" q (iA p1 p2) (iB q1 q2 q3 q4) iS [] [] fI fd) (e : erB K C fI = true) : ErTxt K mg n q C fI := by
  unfold erB at e
  simp only [List.all_cons, List.all_nil, id, Bool.and_true, Bool.and_eq_true, decide_eq_true_eq] at e
  obtain ⟨e1, e2, e3, e4, e5, e6, e7, e8, e9, e10, e11, e12, e13, e14⟩ := e
  refine ⟨g, e1, e2, e3, eqO_ok e4, eqO_ok e5, eqO_ok e6, eqO_ok e7, eqO_ok e8, e9, e10, e11, e12, e13, e14, ?_⟩
  obtain ⟨oc, od, dV, kV, doc, pm, an, cdv, ct, osl, rfl, lk, hcd, hdv, _⟩ := F.ex
  rcases hdv with h | h
  · cases h.2
    exact ⟨oc, od, kV, doc, pm, an, cdv, ct, osl, p1, p2, q1, q2, q3, q4, lk, hcd⟩
  · exact absurd rfl h.1
end ErrL
end PySem

namespace PySem
namespace ErrG
open PySem.W PySem.Calls PyProof.Rows PySem.HandSPX
/-! ### the text of __init__ -/
def iA (p1 p2 : Pos) : Arguments := { posonlyargs := [], args := [{ arg := "self", annotation := none, pos := p1 }, { arg := "given", annotation := none, pos := p2 }], vararg := none, kwonlyargs := [], kw_defaults := [], kwarg := none, defaults := [] }
def iB (q1 q2 q3 q4 : Pos) : List Stmt := [.Assign [.Attribute (.Name "self" q1) "given" q2] (.Name "given" q3) q4]
def iS : Scope := { kind := .function, names := [(PySem.Str.ofString "self", .local), (PySem.Str.ofString "given", .local)], isGenerator := false, isCoroutine := false, more := [] }
/-- what the written part says of Low, at C, and of its __init__, at fI -/
structure ErTxt (K : Frag) (mg : Str → Option Value) (n q : Str) (C fI : Addr) : Prop where
  gC : mg n = some (.ref C)
  cls : ∃ nm qq N bs bm sn sub ab col dd k0 k1 k2 k3 k5, K.lookup C = some (excClassObj nm qq C N bs bm true sn sub ab col dd k0 k1 k2 k3 k5 "ValueError.__new__") ∧ refsVE bm = true
  sa : findIn K (.ref C) "__setattr__" = some (some (.builtin "object.__setattr__"))
  ga : findIn K (.ref C) "__getattribute__" = some (some (.builtin "BaseException.__getattribute__"))
  gg : findIn K (.ref C) "__getattr__" = some none
  noN : findIn K (.ref C) "given" = some none
  iC : findIn K (.ref C) "__init__" = some (some (.ref fI))
  tC : typeIn K (.ref fI) = some (.type "function")
  kC : keepIn K (.ref C) = true
  exC : subIn K (.ref C) (.type "BaseException") = some true
  tyC : typeIn K (.ref C) = some (.type "type")
  hdC : hasDictIn K C = true
  te : exmOne K (.ref C) (.ref C) = some true
  fn : ∃ (oc : Value) (od : Option Addr) (kV doc pm : Value) (an : Option Addr) (cdv ct : Value) (osl : Array (Option Value)) (p1 p2 q1 q2 q3 q4 : Pos),
    K.lookup fI = some ⟨oc, od, .func (fnOf "__init__" q (iA p1 p2) (iB q1 q2 q3 q4) iS .none kV doc pm an cdv ct), osl⟩ ∧ codeIn K cdv q = true
theorem one_size (v : Value) : [v].length ≤ sizeLine := by
  rw [sizeLine_eq]
  exact (by decide : 1 ≤ 16777216)
theorem kept_but {K : Frag} {h h' : Heap} {x : Addr} (X : K.In h) (hx : K.lookup x = none) (k : ∀ b o, b ≠ x → h.get? b = some o → h'.get? b = some o) : K.In h' := fun a o e =>
  k a o (fun z => by rw [z, hx] at e; cases e) (X a o e)
theorem ldC {M : Model} {s : Shared} {name : Str} {scope : Scope} {L a : Addr} {cd : Value} {m : Str → Option Value} {x : Str} {pos : Pos} {v : Value} {Q : Value → Shared → Prop} {A : Around} {E : Value → Shared → Prop} (hn : s.heap.Ns L m) (hv : m x = some v) (h : Q v s)
    (hk : scope.kind = .function := by rfl) (hl : (envOfC name scope L a cd).kindOf x = some .local := by rfl) (hd : (x == ("__debug__" : Str)) = false := by decide) :
    wpAny M A (eval (.Name x pos) (envOfC name scope L a cd)) Q E s := wpAny_Name (wpAny_loadName_local hk hl hn hv h) hd
/-- what __init__ leaves of a fresh exception at x -/
structure InitEnd (h h' : Heap) (x C dx t1 : Addr) (v : Value) : Prop where
  keep : ∀ b o, b ≠ x → h.get? b = some o → h'.get? b = some o
  obj : h'.get? x = some { cls := .ref C, dict := some dx, data := .fields #[.ref t1, .none, .none, .none, .bool false, .none] }
  dbig : h.objs.size ≤ dx
  dne : dx ≠ x
  ns : h'.Ns1 dx (fun y => if y = "given" then some v else none)
/-- a made Low -/
structure OwnMade (h h' : Heap) (e C d : Addr) (v : Value) : Prop where
  keep : ∀ b o, h.get? b = some o → h'.get? b = some o
  new : h.objs.size ≤ e
  obj : ∃ oe vs, h'.get? e = some oe ∧ oe.cls = .ref C ∧ oe.dict = some d ∧ oe.data = .fields vs ∧ vs[1]? = some .none ∧ vs[2]? = some .none
  dbig : h.objs.size ≤ d
  dne : d ≠ e
  ns : h'.Ns1 d (fun y => if y = "given" then some v else none)
section
variable {prog : Program} {w : World} {A : Around} {E : Value → Shared → Prop} {R : Result → Shared → Prop} {s : Shared} {K : Frag} {mg : Str → Option Value} {n q : Str} {C fI : Addr}
theorem er_init (T : ErTxt K mg n q C fI) {x t0 : Addr} {v : Value} (X : K.In s.heap) (hlim : s.heap.NoLimit) (hx : s.heap.get? x = some (excO C t0)) (hnx : K.lookup x = none) (hroom : A.depth < recursionLimit)
    (hq : ∀ h' tk dx, InitEnd s.heap h' x C dx t0 v → R (.ok (.ret .none)) { s with heap := h', toks := tk }) :
    codeAny (model prog w) A (.call (.ref fI) ⟨[.ref x, v], []⟩) R s := by
  obtain ⟨oc, od, kV, doc, pm, an, cdv, ct, osl, p1, p2, q1, q2, q3, q4, ho, hcd⟩ := T.fn
  obtain ⟨nm, qq, N, bs, bm, sn, sub, ab, col, dd, k0, k1, k2, k3, k5, hC, hbm⟩ := T.cls
  have hcl : clsIn K C = some { name := nm, bases := bs, mro := .ref C :: bm, ns := N, qualname := qq, hasDict := true, slotNames := sn, subclasses := sub, abstract := ab, collection := col, hasDel := false } := by unfold clsIn; rw [hC] <;> rfl
  refine Att.call_fn (binds := [("self", .ref x), ("given", v)]) X hlim ho hcd hroom (BindsTo.of_eq (by first | rfl | with_unfolding_all rfl)) (by first | rfl | decide | with_unfolding_all rfl) (fun s₁ IC => ?_) rfl rfl rfl
  obtain ⟨h₁, tk₁, rfl⟩ := IC.toInCall.same
  have k : ∀ b o, s.heap.get? b = some o → h₁.get? b = some o := IC.toInCall.keep
  have hn := IC.toInCall.ns
  have hxL : s.heap.objs.size ≠ x := Nat.ne_of_gt (Heap.lt_size hx)
  have X₁ : K.In h₁ := X.keeps k
  have hx₁ := k _ _ hx
  -- self.by = by
  show wpAny _ _ (execs _ _) _ _ _
  refine wpAny_execs_cons (plainObj_wpAny_Assign_Attribute ?_)
  refine ldC (v := v) hn (by first | rfl | with_unfolding_all rfl | kernel_rfl) (ldC (v := .ref x) hn (by first | rfl | with_unfolding_all rfl | kernel_rfl) ?_)
  refine set_plain X₁ (ox := excO C t0) (od := none) ⟨hx₁, rfl, rfl, trivial⟩ T.sa ?_
  refine exc_osa X₁ hx₁ hcl (show refsVE (.ref C :: bm) = true from hbm) rfl T.noN (fun h₃ tk₃ dx k₃ dn dne hx₃ hn₃ => ?_)
  show wpAny _ _ (execs _ _) _ _ _
  have z : s.heap.objs.size < h₁.objs.size := hn.lt
  exact wpAny_execs_nil (hq h₃ tk₃ dx ⟨fun b o hb e => k₃ b o hb (k b o e), hx₃, Nat.le_of_lt (Nat.lt_of_lt_of_le z dn), dne, hn₃⟩)
theorem er_made (T : ErTxt K mg n q C fI) {v : Value} (X : K.In s.heap) (hlim : s.heap.NoLimit) (hroom : A.depth + 1 < recursionLimit)
    (hq : ∀ h' tk e d, OwnMade s.heap h' e C d v → R (.ok (.ret (.ref e))) { s with heap := h', toks := tk }) :
    codeAny (model prog w) A (.call (.ref C) ⟨[v], []⟩) R s := by
  obtain ⟨nm, qq, N, bs, bm, sn, sub, ab, col, dd, k0, k1, k2, k3, k5, hC, hbm⟩ := T.cls
  obtain ⟨hp, g, dr, tk, os⟩ := s
  have k : ∀ b o, hp.get? b = some o → ((hp.push (kdv_tup [v])).push (excO C hp.objs.size)).get? b = some o := fun b o e => Heap.get?_push_of_some _ (Heap.get?_push_of_some _ e)
  have hget : ((hp.push (kdv_tup [v])).push (excO C hp.objs.size)).get? (hp.objs.size + 1) = some (excO C hp.objs.size) := by heap_get
  have hnx : K.lookup (hp.objs.size + 1) = none := by
    cases e : K.lookup (hp.objs.size + 1) with
    | none => rfl
    | some o =>
      have z : hp.get? (hp.objs.size + 1) = some o := X _ _ e
      exact absurd (Nat.lt_of_succ_lt (Heap.lt_size z)) (Nat.lt_irrefl _)
  refine call_own F.excBase_ValueError (fun X => refsVE_contains X bm hbm) (X _ _ hC) (looks_findIn X T.iC) (fun self => bind_fn X self T.tC) (one_size v) ?_
  refine er_init (s := ⟨(hp.push (kdv_tup [v])).push (excO C hp.objs.size), g, dr, tk, os⟩) T (X.keeps k) (hlim.keeps k) hget hnx ?_ fun h' tk' dx ⟨k', hx, dn, dne, hns⟩ => ?_
  · show A.depth + 1 < recursionLimit
    exact hroom
  · have old : ∀ b o, hp.get? b = some o → h'.get? b = some o := fun b o e => k' b o (Nat.ne_of_lt (Nat.lt_succ_of_lt (Heap.lt_size e))) (k b o e)
    have z : hp.objs.size + 1 + 1 ≤ dx := by
      first
        | (simpa only [Heap.size_push] using dn)
        | exact dn
        | (have q := dn; rw [Heap.size_push, Heap.size_push] at q; exact q)
    exact ⟨rfl, hq h' tk' (hp.objs.size + 1) dx ⟨old, Nat.le_succ _, ⟨_, _, hx, rfl, rfl, rfl, rfl, rfl⟩, Nat.le_trans (Nat.le_trans (Nat.le_succ _) (Nat.le_succ _)) z, dne, hns⟩⟩
end
end ErrG
end PySem
namespace L2
open PySem PySem.Spec PyProof.Rows
theorem relO_erG {v : V} {v' : Value} (r : RelV v v') (f : Str) : RelO (List.lookup f [(("given" : Str), v)]) (if f = "given" then some v' else none) := by
  by_cases hw : f = "given"
  · subst hw
    rw [if_pos rfl]
    have q : List.lookup ("given" : Str) [(("given" : Str), v)] = some v := by simp [List.lookup]
    rw [q]
    exact r
  · rw [if_neg hw]
    have qw : (f == ("given" : Str)) = false := by simpa using hw
    have q2 : List.lookup f [(("given" : Str), v)] = none := by simp [List.lookup, qw]
    rw [q2]
    trivial
section
variable {X : Cx} {n q : Str} {C fI : Addr}
/-- Low(e) -/
def tMkErG (C : Addr) (ta : TA) : St → Hp → XK → Prop := fun σ H Q => ta σ H fun vs H1 => ∃ v, vs = [v] ∧ ∀ d, H1 d = none → Q (.ref C) (some d) (upd H1 d (.xd [(("given" : Str), v)]))
theorem pmk_erG {a : Expr} {ta : TA} {p pos : Pos} {k : Nat} (T : PySem.ErrG.ErTxt X.K X.mg n q C fI) (hr : Room k X.A) (ha : PA X [a] ta) (hg : Gl X n) (hdb : (n == ("__debug__" : Str)) = false := by decide)
    (he : starEach (a :: []) X.env = (false, eval a X.env) :: starEach [] X.env := by rfl) (hpl : (backTo pos (starEach [] X.env)).any (·.1) = false := by rfl) :
    L2N.PMk X (.Call (.Name n p) [a] [] pos) (tMkErG C ta) := by
  intro pins s σ H Q I h
  refine wpAny_Call_Name_kw (ld_glob I hg T.gC ?_ hdb)
  refine PySem.W.callWith_K (h₀ := X.base) I.ok.mod.kin T.kC (thn (ha.run pos pins s σ H _ I h) fun us s1 hh => ?_) he hpl
  obtain ⟨vs, H1, I1, r1, v, ev, q1⟩ := hh
  subst ev
  refine ⟨I1.kIn, ?_⟩
  cases r1 with
  | cons rv rn =>
    rename_i v' us'
    cases rn
    show wpAny _ _ (call (.ref C) [v']) _ _ _
    have hlim := I1.nolimit
    obtain ⟨hp, g, dr, tk, os⟩ := s1
    refine wpAny_call (PySem.ErrG.er_made T I1.kIn hlim (by have := hr.dp; omega) fun h' tk' e d M => ?_)
    show L2N.MkP X pins σ Q (.ref e) ⟨h', g, dr, tk', os⟩
    obtain ⟨oe, fv, hoe, hc, hd, hdat, h1, h2⟩ := M.obj
    have hns := M.ns
    obtain ⟨G', g1, g2⟩ := restrict h' fun b => decide (b ≠ e)
    have gk : ∀ b, b ≠ e → G'.get? b = h'.get? b := fun b hb => g1 b (decide_eq_true hb)
    have ge : G'.get? e = none := g2 e (by simp)
    have old : ∀ b o, hp.get? b = some o → G'.get? b = some o := fun b o q => (gk b (Nat.ne_of_lt (Nat.lt_of_lt_of_le (Heap.lt_size q) M.new))).trans (M.keep b o q)
    have ob : ObjOk X.prog X.w (upd H1 d (.xd [(("given" : Str), v)])) G' d (.xd [(("given" : Str), v)]) :=
      ⟨_, hns.at (fun o q => (gk d M.dne).trans q), fun f => relO_erG rv f⟩
    have J : Inv X pins σ (upd H1 d (.xd [(("given" : Str), v)])) ⟨G', g, dr, tk', os⟩ := I1.laid (t' := tk') old M.dbig ob
    refine ⟨e, oe, fv, ⟨G', g, dr, tk', os⟩, _, .ref C, some d, rfl, J, fun b o q => ?_, ge, hoe, ⟨hc, hd, fun ws hw => by rw [hdat] at hw; cases hw; exact h2⟩, hdat, h1, ?_, rfl, I1.bare, raises_own T.exC T.tyC, q1 d (I1.hok.fresh M.dbig)⟩
    · by_cases hb : b = e
      · have q' : G'.get? b = some o := q
        rw [hb, ge] at q'; cases q'
      · exact (gk b hb).symm.trans q
    · rw [upd_ne (Ne.symm M.dne)]
      exact I1.hok.fresh M.new
/-- raise Low(e) -/
def tRaiseErG (C : Addr) (W : WX) (ta : TA) : TS := fun _ σ H => tMkErG C ta σ H fun cls d H' => W cls d σ H'
theorem ps_raiseErG {a : Expr} {ta : TA} {W : WX} {p pos pos2 : Pos} {k : Nat} (hc : X.calm = true) (T : PySem.ErrG.ErTxt X.K X.mg n q C fI) (hr : Room k X.A) (tk : L2N.Takes X W) (ha : PA X [a] ta) (hg : Gl X n) (hdb : (n == ("__debug__" : Str)) = false := by decide)
    (he : starEach (a :: []) X.env = (false, eval a X.env) :: starEach [] X.env := by rfl) (hpl : (backTo pos (starEach [] X.env)).any (·.1) = false := by rfl) :
    PS X (.Raise (some (.Call (.Name n p) [a] [] pos)) none pos2) (tRaiseErG C W ta) := L2N.ps_raise hc tk (pmk_erG T hr ha hg hdb he hpl)
/-- low.by, low the exception that the suite holds (at a; its class cls, its dict d) -/
def tFldErG (C : Addr) (a : Addr) (cls : Value) (d : Option Addr) (te : TE) : TE := fun σ H Q => te σ H fun x H1 => x = .ref a ∧ cls = .ref C ∧ ∃ (dd : Addr) (v : V), d = some dd ∧ H1 dd = some (.xd [(("given" : Str), v)]) ∧ Q v H1
theorem pe_fldErG {a : Addr} {oe : Obj} {cls : Value} {d : Option Addr} {pn : List (Addr × Obj)} {e : Expr} {te : TE} {pos : Pos} (T : PySem.ErrG.ErTxt X.K X.mg n q C fI) (hz : Zc cls d oe) (hf : ∃ vs, oe.data = .fields vs) (he : PE (X.suite a ((a, oe) :: pn)) e te)
    (hb : attributeBase e "given" X.env (eval e X.env) = eval e X.env := by rfl) :
    PE (X.suite a ((a, oe) :: pn)) (.Attribute e "given" pos) (tFldErG C a cls d te) := by
  refine ⟨fun pins s σ H Q I h => ?_⟩
  refine attr_of hb (thn (he.run pins s σ H _ I h) fun u s1 hh => ?_)
  obtain ⟨x, H1, I1, rx, ex, ec, dd, v, ed, ea, q⟩ := hh
  subst ex
  obtain rfl : u = Value.ref a := rx
  subst ec
  subst ed
  obtain ⟨ha, _⟩ := I1.pin (a, oe) (List.mem_append_left _ List.mem_cons_self)
  obtain ⟨vs, hd⟩ := hf
  have hx : ObjOk X.prog X.w H1 s1.heap dd (.xd [(("given" : Str), v)]) := I1.hok dd _ ea
  obtain ⟨mA, hns, hr⟩ := hx
  obtain ⟨od, ho, hl⟩ := lookIn_ns hns
  have l : List.lookup ("given" : Str) [(("given" : Str), v)] = some v := by simp [List.lookup]
  obtain ⟨u, hu, ru⟩ := RelO.some_of (v := v) (o := mA "given") (by rw [← l]; exact hr "given")
  have J : PySem.W.InstAt s1.heap a oe C (some od) := ⟨ha, hz.1, by unfold PySem.W.notCls; rw [hd] <;> rfl, by rw [hz.2]; exact ho⟩
  exact HandSPX.exc_get I1.kIn J T.ga T.gg T.exC (PySem.W.findObj_own T.hdC T.noN rfl (by rw [hl, hu])) (handed_of ru) ⟨v, H1, I1.tok _, ru, q⟩
end
end L2

namespace PySem
namespace ErrG
-- facts
open PySem.W L2 He PySem.HandSPX PySem.Calls PyProof.Rows
/-- what the head must tell of such a class -/
def erB (K : Frag) (C fI : Addr) : Bool :=
  (match K.lookup C with
  | some ⟨.type "type", _, .cls cd, sl⟩ => (match cd.mro, sl.toList with
    | .ref C' :: bm, [_, _, _, _, some (.builtin n), _] => decide (C' = C) && (decide (n = "ValueError.__new__") && (!cd.hasDel && (cd.hasDict && refsVE bm)))
    | _, _ => false)
  | _ => false) &&
  (eqO (findIn K (.ref C) "__setattr__") (some (some (.builtin "object.__setattr__"))) && (eqO (findIn K (.ref C) "__getattribute__") (some (some (.builtin "BaseException.__getattribute__"))) && (eqO (findIn K (.ref C) "__getattr__") (some none) &&
  (eqO (findIn K (.ref C) "given") (some none) && (eqO (findIn K (.ref C) "__init__") (some (some (.ref fI))) && (decide (typeIn K (.ref fI) = some (.type "function")) && (keepIn K (.ref C) && (decide (subIn K (.ref C) (.type "BaseException") = some true) &&
  (decide (typeIn K (.ref C) = some (.type "type")) && (hasDictIn K C && decide (exmOne K (.ref C) (.ref C) = some true)))))))))))
theorem er_of {K : Frag} {mg : Str → Option Value} {n q : Str} {C fI : Addr} {fd : FuncData} {p1 p2 q1 q2 q3 q4 : Pos} (g : mg n = some (.ref C)) (F : FunD K "__init__" q (iA p1 p2) (iB q1 q2 q3 q4) iS [] [] fI fd) (e : erB K C fI = true) : ErTxt K mg n q C fI := by
  obtain ⟨e0, e⟩ := ba e
  obtain ⟨e1, e⟩ := ba e
  obtain ⟨e2, e⟩ := ba e
  obtain ⟨e3, e⟩ := ba e
  obtain ⟨e4, e⟩ := ba e
  obtain ⟨e5, e⟩ := ba e
  obtain ⟨e6, e⟩ := ba e
  obtain ⟨e7, e⟩ := ba e
  obtain ⟨e8, e⟩ := ba e
  obtain ⟨e9, e⟩ := ba e
  obtain ⟨e10, e11⟩ := ba e
  refine ⟨g, ?_, eqO_ok e1, eqO_ok e2, eqO_ok e3, eqO_ok e4, eqO_ok e5, of_decide_eq_true e6, e7, of_decide_eq_true e8, of_decide_eq_true e9, e10, of_decide_eq_true e11, ?_⟩
  · split at e0
    · rename_i dd cd sl ho
      split at e0
      · rename_i C' bm k0 k1 k2 k3 n' k5 hm hs
        simp only [Bool.and_eq_true, decide_eq_true_eq, Bool.not_eq_true'] at e0
        obtain ⟨rfl, rfl, hdel, hdct, hr⟩ := e0
        obtain ⟨nm, bs, mro, ns, qn, hd, sn, sub, ab, col, del⟩ := cd
        dsimp only at hm hdel hdct
        subst hm hdel hdct
        have hsl : sl = #[k0, k1, k2, k3, some (.builtin "ValueError.__new__"), k5] := by
          obtain ⟨l⟩ := sl
          simp only at hs
          rw [hs]
        subst hsl
        exact ⟨nm, qn, ns, bs, bm, sn, sub, ab, col, dd, k0, k1, k2, k3, k5, ho, hr⟩
      · cases e0
    · cases e0
  · obtain ⟨oc, od, dV, kV, doc, pm, an, cdv, ct, osl, rfl, lk, hcd, hdv, _⟩ := F.ex
    obtain rfl : dV = .none := by
      rcases hdv with h | h
      · exact h.2
      · exact absurd rfl h.1
    exact ⟨oc, od, kV, doc, pm, an, cdv, ct, osl, p1, p2, q1, q2, q3, q4, lk, hcd⟩
end ErrG
end PySem

namespace Z
open PySem PySem.Spec PyProof.Rows L2
def errN : List Str := ["InvalidNumber", "InvalidText", "InvalidName", "InvalidIndex", "InvalidPromise", "NotAnOrder", "NotNumbers", "InvalidMeasures", "InvalidKinds", "InvalidPeople", "InvalidGenerators", "InvalidChanges", "UnknownName", "InUse", "TooMany", "NothingToUndo", "Broken"]
def errK (K : PySem.W.Frag) (D : Addr) : Bool := [(PySem.W.clsIn K D).isSome, He.eqO (PySem.W.findIn K (.ref D) "__getattribute__") (some (some (.builtin "BaseException.__getattribute__"))), He.eqO (PySem.W.findIn K (.ref D) "__getattr__") (some none),
  decide (PySem.W.subIn K (.ref D) (.type "BaseException") = some true), PySem.W.hasDictIn K D, He.eqO (PySem.W.findIn K (.ref D) "__class__") (some (some (.builtin "object.__class__"))),
  decide (PySem.W.specialIn K (.builtin "object.__class__") "__get__" = some (some (.builtin "getset_descriptor.__get__"))), decide (PySem.W.takesIn K (.builtin "object.__class__") = some true), decide (PySem.W.mroIn K D (.type "object") = some true)].all id
def errOne (K : PySem.W.Frag) (i : Nat) (n : Str) : List Bool :=
  [errK K (He.ga K n), (List.range 17).all fun j => match errN[j]? with
      | some m => decide (PySem.W.kitOne K (.ref (He.ga K n)) (.ref (He.ga K m)) = some (decide (i = j)))
      | none => true,
   decide (PySem.W.kitOne K (.ref (He.ga K n)) (.ref (He.ga K "WrongValue")) = some (decide (i < 12))), decide (PySem.W.kitOne K (.ref (He.ga K n)) (.ref (He.ga K "WrongName")) = some (decide (i = 12 ∨ i = 13))), decide (PySem.W.kitOne K (.ref (He.ga K n)) (.ref (He.ga K "NoAnswer")) = some (decide (13 < i))),
   decide (PySem.W.kitOne K (.ref (He.ga K n)) (.type "ValueError") = some (decide (i < 12))), decide (PySem.W.kitOne K (.ref (He.ga K n)) (.type "LookupError") = some (decide (i = 12 ∨ i = 13))), decide (PySem.W.kitOne K (.ref (He.ga K n)) (.type "ArithmeticError") = some (decide (13 < i))),
   decide (PySem.W.exmAny K (.ref (He.ga K n)) [.ref (He.ga K "WrongValue"), .ref (He.ga K "WrongName"), .ref (He.ga K "NoAnswer")] = some true),
   [("given" : Str), "index", "limit", "shown"].all fun f => He.eqO (PySem.W.findIn K (.ref (He.ga K n)) f) (some none)]
def errAll (K : PySem.W.Frag) : Bool := (List.range 17).all fun i => match errN[i]? with
  | some n => (errOne K i n).all id
  | none => true
def iAd (K : PySem.W.Frag) (C : Addr) : Addr := match PySem.W.findIn K (.ref C) "__init__" with
  | some (some (.ref f)) => f
  | _ => 0
def ptB (K : PySem.W.Frag) (v : Value) (p : Int × Int) : Bool := match v with
  | .ref a => match K.lookup a with
    | some ⟨c, _, .seq its _, _⟩ => decide (c = Value.type "tuple") && match its.toList with
      | [.int i _, .int j _] => decide (i = p.1) && decide (j = p.2)
      | _ => false
    | _ => false
  | _ => false
def ptsB (K : PySem.W.Frag) : List Value → List (Int × Int) → Bool
  | [], [] => true
  | v :: vs, p :: ps => ptB K v p && ptsB K vs ps
  | _, _ => false
def axB (K : PySem.W.Frag) (a : Addr) : Bool := match K.lookup a with
  | some ⟨c, _, .seq its _, _⟩ => decide (c = Value.type "tuple") && ptsB K its.toList [(1, 0), (-1, 0), (0, 1), (0, -1)]
  | _ => false
end Z

namespace K11
open PySem PySem.Spec PyProof.Rows L2 Z
def topS (i : Nat) : Stmt := PySem.Challenge.pw_evenboxes_k28_known_orders.main.body.getD i (.Pass ⟨0, 0, 0, 0⟩)
/-- the address of __init__'s default -/
def dA (K : PySem.W.Frag) : Addr := match K.lookup (He.fAd K ("Numbers", some "__init__")) with
  | some ⟨_, _, .func fd, _⟩ => match fd.defaults with
    | .ref T => match K.lookup T with
      | some ⟨_, _, .seq its _, _⟩ => match (its[0]? : Option Value) with
        | some (Value.ref e) => e
        | _ => 0
      | _ => 0
    | _ => 0
  | _ => 0
def tupE (K : PySem.W.Frag) (a : Addr) : Bool := match K.lookup a with
  | some ⟨c, _, .seq its _, _⟩ => decide (c = Value.type "tuple") && decide (its.size = 0)
  | _ => false

abbrev s_Numbers_generators : Stmt := inClass (topS 79) 1
def pA_generators (K : PySem.W.Frag) : Addr := match PySem.W.findIn K (.ref (He.ga K "Numbers")) "generators" with
  | some (some (.ref p)) => p
  | _ => 0
def gA_generators (K : PySem.W.Frag) : Addr := match PySem.W.recIn K (pA_generators K) "property" with
  | some (.ref g :: _) => g
  | _ => 0
abbrev s_Numbers_divisor : Stmt := inClass (topS 79) 2
def pA_divisor (K : PySem.W.Frag) : Addr := match PySem.W.findIn K (.ref (He.ga K "Numbers")) "divisor" with
  | some (some (.ref p)) => p
  | _ => 0
def gA_divisor (K : PySem.W.Frag) : Addr := match PySem.W.recIn K (pA_divisor K) "property" with
  | some (.ref g :: _) => g
  | _ => 0
abbrev s_Order_measures : Stmt := inClass (topS 34) 2
def pA_measures (K : PySem.W.Frag) : Addr := match PySem.W.findIn K (.ref (He.ga K "Order")) "measures" with
  | some (some (.ref p)) => p
  | _ => 0
def gA_measures (K : PySem.W.Frag) : Addr := match PySem.W.recIn K (pA_measures K) "property" with
  | some (.ref g :: _) => g
  | _ => 0
abbrev s_Order_kinds : Stmt := inClass (topS 34) 3
def pA_kinds (K : PySem.W.Frag) : Addr := match PySem.W.findIn K (.ref (He.ga K "Order")) "kinds" with
  | some (some (.ref p)) => p
  | _ => 0
def gA_kinds (K : PySem.W.Frag) : Addr := match PySem.W.recIn K (pA_kinds K) "property" with
  | some (.ref g :: _) => g
  | _ => 0
abbrev s_Order_people : Stmt := inClass (topS 34) 4
def pA_people (K : PySem.W.Frag) : Addr := match PySem.W.findIn K (.ref (He.ga K "Order")) "people" with
  | some (some (.ref p)) => p
  | _ => 0
def gA_people (K : PySem.W.Frag) : Addr := match PySem.W.recIn K (pA_people K) "property" with
  | some (.ref g :: _) => g
  | _ => 0
abbrev s_InvalidNumber__init : Stmt := inClass (topS 4) 0
abbrev s_NotAnOrder__init : Stmt := inClass (topS 6) 0
abbrev s_TooMany__init : Stmt := inClass (topS 13) 0
def gW (K : PySem.W.Frag) (a : Addr) : He.FnW := match K.lookup a with
  | some ⟨_, _, .func fd, _⟩ => some (fd.name, fd.qualname, fd.params, fd.body, fd.scope, fd.globals, fd.closure, fd.builtins)
  | _ => none
def gB (K : PySem.W.Frag) (a : Addr) (q : Str) : Bool := PySem.W.keepIn K (.ref a) && match K.lookup a with
  | some ⟨_, _, .func fd, _⟩ => PySem.W.codeIn K fd.code q && decide (fd.defaults = .none)
  | _ => false
def recB (K : PySem.W.Frag) (p g : Addr) : Bool := match PySem.W.recIn K p "property" with
  | some (.ref k :: _) => decide (k = g)
  | _ => false
def fn : List He.DefD := [
  ⟨("is_integer", none), "is_integer", "is_integer", defArgs (topS 25), defBody (topS 25), defScope (topS 25), [], []⟩,
  ⟨("is_number", none), "is_number", "is_number", defArgs (topS 26), defBody (topS 26), defScope (topS 26), [], []⟩,
  ⟨("check_number", none), "check_number", "check_number", defArgs (topS 27), defBody (topS 27), defScope (topS 27), [], []⟩,
  ⟨("is_integer_within", none), "is_integer_within", "is_integer_within", defArgs (topS 28), defBody (topS 28), defScope (topS 28), [], []⟩,
  ⟨("is_tuple_of", none), "is_tuple_of", "is_tuple_of", defArgs (topS 29), defBody (topS 29), defScope (topS 29), [], []⟩,
  ⟨("is_name", none), "is_name", "is_name", defArgs (topS 30), defBody (topS 30), defScope (topS 30), [], []⟩,
  ⟨("Order", (some "__init__")), "__init__", "Order.__init__", defArgs (inClass (topS 34) 0), defBody (inClass (topS 34) 0), defScope (inClass (topS 34) 0), [], []⟩,
  ⟨("Order", (some "due")), "due", "Order.due", defArgs (inClass (topS 34) 5), defBody (inClass (topS 34) 5), defScope (inClass (topS 34) 5), [], []⟩,
  ⟨("check_order", none), "check_order", "check_order", defArgs (topS 36), defBody (topS 36), defScope (topS 36), [], []⟩,
  ⟨("all_shares", none), "all_shares", "all_shares", defArgs (topS 37), defBody (topS 37), defScope (topS 37), [], []⟩,
  ⟨("are_worths", none), "are_worths", "are_worths", defArgs (topS 38), defBody (topS 38), defScope (topS 38), [], []⟩,
  ⟨("_check_measures", none), "_check_measures", "_check_measures", defArgs (topS 39), defBody (topS 39), defScope (topS 39), [], []⟩,
  ⟨("_check_kinds", none), "_check_kinds", "_check_kinds", defArgs (topS 40), defBody (topS 40), defScope (topS 40), [], []⟩,
  ⟨("_check_people", none), "_check_people", "_check_people", defArgs (topS 41), defBody (topS 41), defScope (topS 41), [], []⟩,
  ⟨("_is_kind", none), "_is_kind", "_is_kind", defArgs (topS 42), defBody (topS 42), defScope (topS 42), [], []⟩,
  ⟨("_is_person", none), "_is_person", "_is_person", defArgs (topS 43), defBody (topS 43), defScope (topS 43), [], []⟩,
  ⟨("_are_refused", none), "_are_refused", "_are_refused", defArgs (topS 44), defBody (topS 44), defScope (topS 44), [], []⟩,
  ⟨("_most_people", none), "_most_people", "_most_people", defArgs (topS 45), defBody (topS 45), defScope (topS 45), [], []⟩,
  ⟨("_names", none), "_names", "_names", defArgs (topS 46), defBody (topS 46), defScope (topS 46), [], []⟩,
  ⟨("_text_of", none), "_text_of", "_text_of", defArgs (topS 47), defBody (topS 47), defScope (topS 47), [], []⟩,
  ⟨("_box_worth", none), "_box_worth", "_box_worth", defArgs (topS 50), defBody (topS 50), defScope (topS 50), [], []⟩,
  ⟨("_parts", none), "_parts", "_parts", defArgs (topS 51), defBody (topS 51), defScope (topS 51), [], []⟩,
  ⟨("_lowest", none), "_lowest", "_lowest", defArgs (topS 52), defBody (topS 52), defScope (topS 52), [], []⟩,
  ⟨("whole_due", none), "whole_due", "whole_due", defArgs (topS 55), defBody (topS 55), defScope (topS 55), [], []⟩,
  ⟨("point_of", none), "point_of", "point_of", defArgs (topS 56), defBody (topS 56), defScope (topS 56), [], []⟩,
  ⟨("takers", none), "takers", "takers", defArgs (topS 57), defBody (topS 57), defScope (topS 57), [], []⟩,
  ⟨("points_of_things", none), "points_of_things", "points_of_things", defArgs (topS 58), defBody (topS 58), defScope (topS 58), [], []⟩,
  ⟨("sides", none), "sides", "sides", defArgs (topS 59), defBody (topS 59), defScope (topS 59), [], []⟩,
  ⟨("steps_apart", none), "steps_apart", "steps_apart", defArgs (topS 60), defBody (topS 60), defScope (topS 60), [], []⟩,
  ⟨("common_divisor", none), "common_divisor", "common_divisor", defArgs (topS 61), defBody (topS 61), defScope (topS 61), [], []⟩,
  ⟨("_points_of_kind", none), "_points_of_kind", "_points_of_kind", defArgs (topS 62), defBody (topS 62), defScope (topS 62), [], []⟩,
  ⟨("_directions", none), "_directions", "_directions", defArgs (topS 63), defBody (topS 63), defScope (topS 63), [], []⟩,
  ⟨("_along", none), "_along", "_along", defArgs (topS 64), defBody (topS 64), defScope (topS 64), [], []⟩,
  ⟨("_room", none), "_room", "_room", defArgs (topS 65), defBody (topS 65), defScope (topS 65), [], []⟩,
  ⟨("_reaching", none), "_reaching", "_reaching", defArgs (topS 66), defBody (topS 66), defScope (topS 66), [], []⟩,
  ⟨("_two_steps", none), "_two_steps", "_two_steps", defArgs (topS 67), defBody (topS 67), defScope (topS 67), [], []⟩,
  ⟨("ways", none), "ways", "ways", defArgs (topS 69), defBody (topS 69), defScope (topS 69), [], []⟩,
  ⟨("fill", none), "fill", "fill", defArgs (topS 70), defBody (topS 70), defScope (topS 70), [], []⟩,
  ⟨("_row_across", none), "_row_across", "_row_across", defArgs (topS 71), defBody (topS 71), defScope (topS 71), [], []⟩,
  ⟨("_grids", none), "_grids", "_grids", defArgs (topS 72), defBody (topS 72), defScope (topS 72), [], []⟩,
  ⟨("_given", none), "_given", "_given", defArgs (topS 73), defBody (topS 73), defScope (topS 73), [], []⟩,
  ⟨("_moved", none), "_moved", "_moved", defArgs (topS 74), defBody (topS 74), defScope (topS 74), [], []⟩,
  ⟨("_joined", none), "_joined", "_joined", defArgs (topS 75), defBody (topS 75), defScope (topS 75), [], []⟩,
  ⟨("_stands", none), "_stands", "_stands", defArgs (topS 76), defBody (topS 76), defScope (topS 76), [], []⟩,
  ⟨("_step_back", none), "_step_back", "_step_back", defArgs (topS 77), defBody (topS 77), defScope (topS 77), [], []⟩,
  ⟨("Numbers", (some "__init__")), "__init__", "Numbers.__init__", defArgs (inClass (topS 79) 0), defBody (inClass (topS 79) 0), defScope (inClass (topS 79) 0), [.adr dA], []⟩,
  ⟨("Numbers", (some "__contains__")), "__contains__", "Numbers.__contains__", defArgs (inClass (topS 79) 7), defBody (inClass (topS 79) 7), defScope (inClass (topS 79) 7), [], []⟩,
  ⟨("Numbers", (some "__eq__")), "__eq__", "Numbers.__eq__", defArgs (inClass (topS 79) 10), defBody (inClass (topS 79) 10), defScope (inClass (topS 79) 10), [], []⟩,
  ⟨("_check_generators", none), "_check_generators", "_check_generators", defArgs (topS 80), defBody (topS 80), defScope (topS 80), [], []⟩,
  ⟨("_least_generators", none), "_least_generators", "_least_generators", defArgs (topS 81), defBody (topS 81), defScope (topS 81), [], []⟩,
  ⟨("_with_multiples", none), "_with_multiples", "_with_multiples", defArgs (topS 82), defBody (topS 82), defScope (topS 82), [], []⟩,
  ⟨("_has_bit", none), "_has_bit", "_has_bit", defArgs (topS 83), defBody (topS 83), defScope (topS 83), [], []⟩,
  ⟨("_greatest_divisor", none), "_greatest_divisor", "_greatest_divisor", defArgs (topS 84), defBody (topS 84), defScope (topS 84), [], []⟩,
  ⟨("_leasts_by_first", none), "_leasts_by_first", "_leasts_by_first", defArgs (topS 85), defBody (topS 85), defScope (topS 85), [], []⟩,
  ⟨("_leasts", none), "_leasts", "_leasts", defArgs (topS 86), defBody (topS 86), defScope (topS 86), [], []⟩,
  ⟨("_holds", none), "_holds", "_holds", defArgs (topS 87), defBody (topS 87), defScope (topS 87), [], []⟩,
  ⟨("possible", none), "possible", "possible", defArgs (topS 91), defBody (topS 91), defScope (topS 91), [], []⟩,
  ⟨("_possible", none), "_possible", "_possible", defArgs (topS 92), defBody (topS 92), defScope (topS 92), [], []⟩,
  ⟨("_law_cell", none), "_law_cell", "_law_cell", defArgs (topS 94), defBody (topS 94), defScope (topS 94), [], []⟩,
  ⟨("_law_jar", none), "_law_jar", "_law_jar", defArgs (topS 95), defBody (topS 95), defScope (topS 95), [], []⟩,
  ⟨("_law_dig", none), "_law_dig", "_law_dig", defArgs (topS 96), defBody (topS 96), defScope (topS 96), [], []⟩,
  ⟨("_law_take", none), "_law_take", "_law_take", defArgs (topS 97), defBody (topS 97), defScope (topS 97), [], []⟩,
  ⟨("_law_folk", none), "_law_folk", "_law_folk", defArgs (topS 98), defBody (topS 98), defScope (topS 98), [], []⟩,
  ⟨("_law_known", none), "_law_known", "_law_known", defArgs (topS 99), defBody (topS 99), defScope (topS 99), [], []⟩,
  ⟨("_law_right", none), "_law_right", "_law_right", defArgs (topS 100), defBody (topS 100), defScope (topS 100), [], []⟩,
  ⟨("law", none), "law", "law", defArgs (topS 101), defBody (topS 101), defScope (topS 101), [], []⟩]
def fa : List He.Fa := [
  .glo "InvalidNumber",
  .glo "NotAnOrder",
  .glo "TooMany",
  .int "MOST_KINDS" 4,
  .int "MOST_PEOPLE" 3,
  .int "MOST_COUNT" 3,
  .int "MOST_WORTH" 6,
  .int "MOST_SHARE" 3,
  .int "MOST_BOXES" 12,
  .int "MOST_NUMBER" 1000,
  .str "_LETTERS" "abcdefghijklmnopqrstuvwxyz",
  .str "_LETTERS_AND_DIGITS" "abcdefghijklmnopqrstuvwxyz0123456789",
  .int "_LONGEST_NAME" 8,
  .glo "is_integer",
  .glo "is_number",
  .glo "check_number",
  .glo "is_integer_within",
  .glo "is_tuple_of",
  .glo "is_name",
  .int "_MOST_MEASURES" 2,
  .int "_FEWEST_PEOPLE" 2,
  .glo "Order",
  .glo "check_order",
  .glo "all_shares",
  .glo "are_worths",
  .glo "_check_measures",
  .glo "_check_kinds",
  .glo "_check_people",
  .glo "_is_kind",
  .glo "_is_person",
  .glo "_are_refused",
  .glo "_most_people",
  .glo "_names",
  .glo "_text_of",
  .glo "_box_worth",
  .glo "_parts",
  .glo "_lowest",
  .glo "whole_due",
  .glo "point_of",
  .glo "takers",
  .glo "points_of_things",
  .glo "sides",
  .glo "steps_apart",
  .glo "common_divisor",
  .glo "_points_of_kind",
  .glo "_directions",
  .glo "_along",
  .glo "_room",
  .glo "_reaching",
  .glo "_two_steps",
  .glo "ways",
  .glo "fill",
  .glo "_row_across",
  .glo "_grids",
  .glo "_given",
  .glo "_moved",
  .glo "_joined",
  .glo "_stands",
  .glo "_step_back",
  .glo "Numbers",
  .glo "_check_generators",
  .glo "_least_generators",
  .glo "_with_multiples",
  .glo "_has_bit",
  .glo "_greatest_divisor",
  .glo "_leasts_by_first",
  .glo "_leasts",
  .glo "_holds",
  .glo "possible",
  .glo "_possible",
  .glo "_law_cell",
  .glo "_law_jar",
  .glo "_law_dig",
  .glo "_law_take",
  .glo "_law_folk",
  .glo "_law_known",
  .glo "_law_right",
  .glo "law",
  .free "isinstance",
  .free "len",
  .free "all",
  .free "any",
  .free "enumerate",
  .free "tuple",
  .free "list",
  .free "dict",
  .free "sum",
  .free "range",
  .free "int",
  .free "str",
  .free "bool",
  .free "abs",
  .free "min",
  .free "max",
  .free "divmod",
  .free "repr",
  .free "sorted",
  .free "zip",
  .free "reversed",
  .free "set",
  .cls "Numbers",
  .mkr "Numbers",
  .meth "Numbers" "__contains__",
  .meth "Numbers" "__eq__",
  .noat "Numbers" "_generators",
  .noat "Numbers" "_divisor",
  .noat "Numbers" "_leasts",
  .cls "Order",
  .mkr "Order",
  .noat "Order" "_measures",
  .noat "Order" "_kinds",
  .noat "Order" "_people",
  .noat "Order" "_text",
  .glo "_AXES",
  .meth "Order" "due"]
abbrev R : PySem.W.OpenRow := PySem.W.OpenLaw.row PySem.Challenge.rw_evenboxes_k28_known_orders
abbrev qv : Program := PySem.W.view R.prog [0, 101]
def loose0 : List Str := ["_wall", "WrongValue", "InvalidNumber", "InvalidText", "NotAnOrder", "NotNumbers", "InvalidMeasures", "InvalidKinds", "InvalidPeople", "InvalidGenerators", "NoAnswer", "TooMany", "MOST_KINDS", "MOST_PEOPLE", "MOST_COUNT", "MOST_WORTH", "MOST_SHARE", "MOST_BOXES", "MOST_NUMBER", "_LETTERS", "_LETTERS_AND_DIGITS", "_LONGEST_NAME", "is_integer", "is_number", "check_number", "is_integer_within", "is_tuple_of", "is_name", "_MOST_MEASURES", "_FEWEST_PEOPLE"]
def loose1 : List Str := ["Order", "read_order", "check_order", "all_shares", "are_worths", "_check_measures", "_check_kinds", "_check_people", "_is_kind", "_is_person", "_are_refused", "_most_people", "_names", "_text_of", "_told", "_digit", "_box_worth", "_parts", "_lowest", "_AXES", "whole_due", "point_of", "takers", "points_of_things", "sides", "steps_apart", "common_divisor", "_points_of_kind", "_directions", "_along"]
def loose2 : List Str := ["_room", "_reaching", "_two_steps", "ways", "fill", "_row_across", "_grids", "_given", "_moved", "_joined", "_stands", "_step_back", "Numbers", "_check_generators", "_least_generators", "_with_multiples", "_has_bit", "_greatest_divisor", "_leasts_by_first", "_leasts", "_holds", "_common_generators", "_greater", "possible", "_possible", "_law_cell", "_law_jar", "_law_dig", "_law_take", "_law_folk"]
def loose3 : List Str := ["_law_known", "_law_right"]
def loose : List Str := loose0 ++ loose1 ++ loose2 ++ loose3
def lawAt : Nat := 101

def exs (K : PySem.W.Frag) : List Bool := [
  decide (PySem.W.nsIn K mainGlobals "gcd" = some (some (.builtin "math.gcd"))),
  He.eqO (PySem.W.findIn K (.ref (He.ga K "Numbers")) "__ne__") (some (some (.builtin "object.__ne__"))),
  decide (PySem.W.mroIn K (He.ga K "Numbers") (.type "object") = some true),
  He.eqO (PySem.W.findIn K (.ref (He.ga K "Numbers")) "__class__") (some (some (.builtin "object.__class__"))),
  decide (PySem.W.specialIn K (.builtin "object.__class__") "__get__" = some (some (.builtin "getset_descriptor.__get__"))),
  decide (PySem.W.takesIn K (.builtin "object.__class__") = some true),
  He.eqO (PySem.W.findIn K (.ref (He.ga K "Numbers")) "generators") (some (some (.ref (pA_generators K)))),
  decide (PySem.W.specialIn K (.ref (pA_generators K)) "__get__" = some (some (.builtin "property.__get__"))),
  decide (PySem.W.takesIn K (.ref (pA_generators K)) = some true),
  recB K (pA_generators K) (gA_generators K),
  gB K (gA_generators K) "Numbers.generators",
  He.eqO (PySem.W.findIn K (.ref (He.ga K "Numbers")) "divisor") (some (some (.ref (pA_divisor K)))),
  decide (PySem.W.specialIn K (.ref (pA_divisor K)) "__get__" = some (some (.builtin "property.__get__"))),
  decide (PySem.W.takesIn K (.ref (pA_divisor K)) = some true),
  recB K (pA_divisor K) (gA_divisor K),
  gB K (gA_divisor K) "Numbers.divisor",
  He.eqO (PySem.W.findIn K (.ref (He.ga K "Order")) "measures") (some (some (.ref (pA_measures K)))),
  decide (PySem.W.specialIn K (.ref (pA_measures K)) "__get__" = some (some (.builtin "property.__get__"))),
  decide (PySem.W.takesIn K (.ref (pA_measures K)) = some true),
  recB K (pA_measures K) (gA_measures K),
  gB K (gA_measures K) "Order.measures",
  He.eqO (PySem.W.findIn K (.ref (He.ga K "Order")) "kinds") (some (some (.ref (pA_kinds K)))),
  decide (PySem.W.specialIn K (.ref (pA_kinds K)) "__get__" = some (some (.builtin "property.__get__"))),
  decide (PySem.W.takesIn K (.ref (pA_kinds K)) = some true),
  recB K (pA_kinds K) (gA_kinds K),
  gB K (gA_kinds K) "Order.kinds",
  He.eqO (PySem.W.findIn K (.ref (He.ga K "Order")) "people") (some (some (.ref (pA_people K)))),
  decide (PySem.W.specialIn K (.ref (pA_people K)) "__get__" = some (some (.builtin "property.__get__"))),
  decide (PySem.W.takesIn K (.ref (pA_people K)) = some true),
  recB K (pA_people K) (gA_people K),
  gB K (gA_people K) "Order.people",
  tupE K (dA K),
  PySem.ErrG.erB K (He.ga K "InvalidNumber") (iAd K (He.ga K "InvalidNumber")),
  gB K (iAd K (He.ga K "InvalidNumber")) "InvalidNumber.__init__",
  PySem.ErrG.erB K (He.ga K "NotAnOrder") (iAd K (He.ga K "NotAnOrder")),
  gB K (iAd K (He.ga K "NotAnOrder")) "NotAnOrder.__init__",
  PySem.ErrL.erB K (He.ga K "TooMany") (iAd K (He.ga K "TooMany")),
  gB K (iAd K (He.ga K "TooMany")) "TooMany.__init__",
  decide (PySem.W.mroIn K (He.ga K "Order") (.type "object") = some true),
  He.eqO (PySem.W.findIn K (.ref (He.ga K "Order")) "__class__") (some (some (.builtin "object.__class__"))),
  axB K (He.ga K "_AXES"),
  decide (PySem.W.nsIn K mainGlobals "lcm" = some (some (.builtin "math.lcm")))]
def ex (K : PySem.W.Frag) : Bool := (exs K).all id
def gws (K : PySem.W.Frag) : List He.FnW := [gW K (gA_generators K), gW K (gA_divisor K), gW K (gA_measures K), gW K (gA_kinds K), gW K (gA_people K), gW K (iAd K (He.ga K "InvalidNumber")), gW K (iAd K (He.ga K "NotAnOrder")), gW K (iAd K (He.ga K "TooMany"))]
def gvs : List He.FnW := [some ("generators", "Numbers.generators", defArgs s_Numbers_generators, FuncBody.stmts (defBody s_Numbers_generators), defScope s_Numbers_generators, mainGlobals, [], builtinsNs), some ("divisor", "Numbers.divisor", defArgs s_Numbers_divisor, FuncBody.stmts (defBody s_Numbers_divisor), defScope s_Numbers_divisor, mainGlobals, [], builtinsNs), some ("measures", "Order.measures", defArgs s_Order_measures, FuncBody.stmts (defBody s_Order_measures), defScope s_Order_measures, mainGlobals, [], builtinsNs), some ("kinds", "Order.kinds", defArgs s_Order_kinds, FuncBody.stmts (defBody s_Order_kinds), defScope s_Order_kinds, mainGlobals, [], builtinsNs), some ("people", "Order.people", defArgs s_Order_people, FuncBody.stmts (defBody s_Order_people), defScope s_Order_people, mainGlobals, [], builtinsNs), some ("__init__", "InvalidNumber.__init__", defArgs s_InvalidNumber__init, FuncBody.stmts (defBody s_InvalidNumber__init), defScope s_InvalidNumber__init, mainGlobals, [], builtinsNs), some ("__init__", "NotAnOrder.__init__", defArgs s_NotAnOrder__init, FuncBody.stmts (defBody s_NotAnOrder__init), defScope s_NotAnOrder__init, mainGlobals, [], builtinsNs), some ("__init__", "TooMany.__init__", defArgs s_TooMany__init, FuncBody.stmts (defBody s_TooMany__init), defScope s_TooMany__init, mainGlobals, [], builtinsNs)]
def tf : List He.Defn := []
def TT (K : PySem.W.Frag) : List (Addr × Str) := []
/-- the objects that the facts speak of -/
def asL : List Addr := [3, 59, 79, 117, 224, 244, 253, 260, 267, 274, 281, 286, 363, 381, 386, 391, 398, 405, 412, 419, 426, 431, 438, 443, 448, 465, 470, 477, 482, 487, 494, 499, 504, 509, 514, 521, 526, 533, 540, 545, 550, 557, 562, 567, 572, 577, 582, 587, 592, 599, 604, 707, 718, 725, 732, 739, 746, 753, 758, 765, 784, 789, 796, 803, 810, 817, 822, 829, 836, 841, 58, 78, 116, 223, 243, 252, 259, 266, 273, 280, 285, 362, 380, 385, 390, 397, 404, 411, 418, 425, 430, 437, 442, 447, 464, 469, 476, 478, 479, 480, 481, 486, 493, 498, 503, 508, 513, 520, 525, 532, 539, 544, 549, 556, 561, 566, 571, 576, 581, 586, 591, 598, 603, 706, 717, 724, 731, 738, 745, 752, 757, 764, 783, 788, 795, 802, 809, 816, 821, 828, 835, 840, 76, 114, 241, 300, 318, 326, 334, 339, 620, 628, 636, 671, 692, 75, 113, 240, 299, 317, 325, 333, 338, 619, 613, 627, 635, 670, 691, 316, 324, 332, 612, 626, 634]
abbrev AlZ : Type := List He.FnW × (He.AlT × (Bool × Bool))
def obsK (g : Addr → Option Obj) (K : PySem.W.Frag) : AlZ := (gws K, He.obsT fa fn [] K, ex K, He.tabsB g tf K)
def obsZG (g : Addr → Option Obj) : AlZ := obsK g (He.frT g asL)
theorem told_of {w : World} {g : Addr → Option Obj} {hp : Heap} (hg : g = hp.get?) (e : obsZG g = (gvs, He.valT fn [] w, true, true)) : gws (He.frT hp.get? asL) = gvs ∧ He.SaysX fa fn [] tf ex w hp (He.frT hp.get? asL) := by
  subst hg
  unfold obsZG obsK at e
  injection e with a1 e
  injection e with a2 e
  injection e with a3 a4
  have tabs : ∀ q, q ∈ tf → PySem.W.codeHdIn (He.frT hp.get? asL) (He.cT (He.frT hp.get? asL) q).1 (He.cT (He.frT hp.get? asL) q).2 = true ∧ ∃ u, hp.get? (He.cT (He.frT hp.get? asL) q).2 = some u ∧ He.emptyTab u = true := by
    intro q hq
    have b := (List.all_eq_true.mp a4) q hq
    rw [Bool.and_eq_true] at b
    obtain ⟨b1, b2⟩ := b
    refine And.intro b1 ?_
    revert b2
    cases hp.get? (He.cT (He.frT hp.get? asL) q).2 with
    | none => intro b2; cases b2
    | some u => intro b2; exact Exists.intro u (And.intro rfl b2)
  refine And.intro a1 { t := a2, more := a3, hd := fun q hq => (tabs q hq).1, out := ?_, empty := ?_ }
  · intro q hq
    have ⟨u, b2, b3⟩ := (tabs q hq).2
    exact He.frT_none b2 b3
  · intro q hq
    have ⟨u, b2, b3⟩ := (tabs q hq).2
    exact b2.trans (congrArg some (He.emptyTab_eq b3))
def hk : PySem.W.Hook where
  α := AlZ
  obs := fun s => obsZG s.heap.get?
  val := fun w => (gvs, He.valT fn [] w, true, true)
  says := fun w h => ∃ K : PySem.W.Frag, K.In h ∧ gws K = gvs ∧ He.SaysX fa fn [] tf ex w h K
  of := fun _ _ e => ⟨_, He.frT_in, told_of rfl e⟩
  keeps := fun _ _ _ ⟨K, hK, c1, c⟩ k => ⟨K, PySem.W.Frag.In.keeps hK k, c1, ⟨c.t, c.more, c.hd, c.out, fun p hp => k _ _ (c.empty p hp)⟩⟩
def ob (s : PySem.W.SharedT) : AlZ := obsZG (HandSHeadRun.getT s)
theorem ob_eq (s : PySem.W.SharedT) : ob s = hk.obs s.abs := by
  have e : HandSHeadRun.getT s = s.abs.heap.get? := funext (HandSHeadRun.getT_eq s)
  unfold ob
  rw [e] <;> rfl
theorem run (w : World) : HandSHeadRun.RunEqI R qv hk ob 20000 loose w := by
  unfold HandSHeadRun.RunEqI
  kernel_rfl
end K11

/-! enumerate(t), t a tuple: a walk of our own. -/
namespace ZE
open PySem PySem.Spec PyProof.Rows
set_option maxHeartbeats 1000000 in
theorem enum1_meets {v : Value} {ob : Obj} {St : Heap → Prop} (B : Begins v ob St) :
    Meets (Builtin.«enumerate.__new__» ⟨[.type "enumerate", v], []⟩) (fun _ R z => St z.heap ∧
      R (.ok (.ret (.ref (z.heap.push ob).objs.size))) { z with heap := (z.heap.push ob).push { cls := .type "enumerate", data := .fields #[.none, .bool false, .ref z.heap.objs.size, rawInt 0, .none, .none] } }) :=
  .of_wp fun prog w A R z hz => by
    obtain ⟨hp, gs, dr, tk, os⟩ := z
    obtain ⟨st, fin⟩ := hz
    have sub1 := sub_enumerate
    have it1 : ∀ {A2 : Around} {E : Value → Shared → Prop} {Q : Value → Shared → Prop}, Q (.ref hp.objs.size) ⟨hp.push ob, gs, dr, tk, os⟩ → wpAny (model prog w) A2 (pyIter v) Q E ⟨hp, gs, dr, tk, os⟩ := fun q => B.iter prog w _ _ ⟨hp, gs, dr, tk, os⟩ _ st q
    wp_walk using it1
    refine wpAny_stack_any fun sk => wpAny_pure ?_
    split
    · rename_i cc _ _ _ _ _
      cases (cc == Value.type "enumerate")
      · wp_walk using it1
        exact ⟨_, rfl, fin⟩
      · wp_walk using it1
        exact ⟨_, rfl, fin⟩
    · wp_walk using it1
      exact ⟨_, rfl, fin⟩
section
variable {prog : Program} {w : World} {A : Around} {E : Value → Shared → Prop} {z : Shared}
theorem enum1_call {v : Value} {ob : Obj} {St : Heap → Prop} {Q : Value → Shared → Prop} (B : Begins v ob St) (st : St z.heap)
    (fin : ∀ h', IsEnum h' (z.heap.objs.size + 1) z.heap.objs.size 0 .none → h'.get? z.heap.objs.size = some ob → h'.objs.size = z.heap.objs.size + 2 →
      (∀ b u, z.heap.get? b = some u → h'.get? b = some u) → Q (.ref (z.heap.objs.size + 1)) { z with heap := h' }) :
    wpAny (model prog w) A (call (.type "enumerate") [v]) Q E z := by
  refine callType_new F.called_enumerate (by decide) (F.typeCall_enumerate_1 v) (F.newCall_enumerate_1 v) (fun x => F.args_object_init_2 x v) F.entry_enumerate_new (enum1_meets B) ⟨st, ?_⟩
  have sz : (z.heap.push ob).objs.size = z.heap.objs.size + 1 := Heap.size_push ..
  show _ ∧ _
  rw [sz]
  have en : IsEnum ((z.heap.push ob).push { cls := .type "enumerate", data := .fields #[.none, .bool false, .ref z.heap.objs.size, rawInt 0, .none, .none] }) (z.heap.objs.size + 1) z.heap.objs.size 0 .none := by
    have q := Heap.get?_push_size (z.heap.push ob) (o := { cls := .type "enumerate", data := .fields #[.none, .bool false, .ref z.heap.objs.size, rawInt 0, .none, .none] }) rfl
    rw [sz] at q
    exact q
  exact ⟨⟨_, en, rfl⟩, fin _ en (Heap.get?_push_of_some _ (Heap.get?_push_size _ B.free)) (by rw [Heap.size_push, sz]) fun b u x => Heap.get?_push_of_some _ (Heap.get?_push_of_some _ x)⟩
end
open L2 Z
/-- the tuple at a, each item in a new pair with its place -/
def IteT (K : PySem.W.Frag) (a : Addr) : It :=
  ⟨fun i H => ∃ (xs : List V) (x : V), SqT K H a xs ∧ xs[i]? = some x,
   fun i H v H' => ∃ T x, v = .ref T ∧ H T = none ∧ H' = upd H T (.tup [.int (i : Nat), x]) ∧ ∀ xs, SqT K H a xs → xs[i]? = some x,
   fun i H => ∃ xs : List V, SqT K H a xs ∧ xs.length ≤ i⟩
theorem turn_enumT {P : Program} {w : World} {K : PySem.W.Frag} {elts : List Expr} {kk : Nat} {tpos : Pos} (a e it : Addr) (h1 : e ≠ it) (h2 : a ≠ it) (h3 : a ≠ e) :
    Turn P w K (.Tuple elts kk tpos) (IteT K a) [e, it] e (fun i h => (∃ old, IsEnum h e it ((i : Nat) : Int) old) ∧ h.IsTupleIter it a i) where
  mem := by simp
  obj := fun i h st b hb => by
    obtain ⟨⟨old, he⟩, o, ho, hc, hd⟩ := st
    have q : b = e ∨ b = it := by simpa using hb
    rcases q with q | q
    · rw [q]
      exact ⟨_, he, fun v z => nomatch z⟩
    · rw [q]
      exact ⟨o, ho, fun v z => by
        rw [hd] at z
        cases z⟩
  keep := fun i h h' st k => by
    obtain ⟨⟨old, he⟩, hi⟩ := st
    exact ⟨⟨old, k e (by simp) _ he⟩, hi.at fun o z => k it (by simp) o z⟩
  item := by
    intro X hP hw hK hc i pins s σ H E I hf st hg
    subst hP hw hK
    obtain ⟨⟨old, he⟩, hit⟩ := st
    obtain ⟨xs, x, hq, hx⟩ := hg
    obtain ⟨its, rv, p, _⟩ := I.tuple hq
    obtain ⟨u, hu, ru⟩ := rv.get hx
    have le : e < s.heap.objs.size := Heap.lt_size he
    have li : it < s.heap.objs.size := by
      obtain ⟨_, z, _⟩ := hit
      exact Heap.lt_size z
    have lt : i < its.toArray.size := by
      have z := (List.getElem?_eq_some_iff.mp hu).1
      simpa using z
    have hh : X.A.in1.handled = none := I.ok.hd hc
    refine wpAny_pyNext_enum_itemD (Draws.tuple hh it a h2 its.toArray) he ⟨hit, p⟩ lt h1 (by simp [h1, Ne.symm h3]) fun u' h' tk hP ho hst hT hsz hk => ?_
    obtain rfl : u = u' := by
      have z : its[i]? = some u' := by simpa using hP
      rw [hu] at z
      exact Option.some.inj z
    refine ⟨_, rfl, wpAny_letOwnedTupleGo_enum (s := { s with heap := h', toks := tk + 1 }) ho fun h'' he' sb => ?_⟩
    have hT2 : h''.get? s.heap.objs.size = some { cls := .type "tuple", data := .seq #[.int i tk, u] } := (sb.2 _ (Nat.ne_of_gt le)).trans hT
    have new : ObjOk X.prog X.w (upd H s.heap.objs.size (.tup [.int (i : Nat), x])) h'' s.heap.objs.size (.tup [.int (i : Nat), x]) :=
      ⟨by show 2 ≤ sizeLine; decide, [.int i tk, u], .cons ⟨_, rfl⟩ (.cons ru .nil), ⟨_, hT2, rfl, _, rfl⟩⟩
    have I1 : Inv X pins σ (upd H s.heap.objs.size (.tup [.int (i : Nat), x])) { s with heap := h'', toks := tk + 1 } := by
      refine I.turnedNew (ch := [e, it]) (fun b ob hb q => ?_) hf (Nat.le_refl _) new
      have be : b ≠ e := fun z => hb (by simp [z])
      have bi : b ≠ it := fun z => hb (by simp [z])
      exact (sb.2 b be).trans (hk b ob be bi q)
    refine ⟨.ref s.heap.objs.size, _, I1, rfl, ⟨_, x, rfl, I.hok.fresh (Nat.le_refl _), rfl, fun ys hy => by rw [I.tuple_inj hy hq]; exact hx⟩, ⟨⟨u, ?_⟩, hst.1.at fun o q => (sb.2 it (Ne.symm h1)).trans q⟩, fun b hb => ?_⟩
    · have z : ((i + 1 : Nat) : Int) = (i : Int) + 1 := by omega
      rw [z]
      exact he'
    · have lb : b < s.heap.objs.size := by
        have q : b = e ∨ b = it := by simpa using hb
        rcases q with q | q
        · rw [q]
          exact le
        · rw [q]
          exact li
      rw [upd_ne (Nat.ne_of_lt lb)]
      exact (hf b hb).1
  done := by
    intro X hP hw hK hc i pins s σ H E I hf st hg
    subst hP hw hK
    obtain ⟨⟨old, he⟩, hit⟩ := st
    obtain ⟨xs, hq, hx⟩ := hg
    obtain ⟨its, rv, p, _⟩ := I.tuple hq
    obtain ⟨f0, f1, f2, f3, f4, f5⟩ := hf it (by simp)
    have hl := rv.length
    have hT : s.TypeIs (.ref e) "enumerate" := ⟨_, he, rfl⟩
    unfold pyNext
    refine wpAny_bind (wpAny_attempt (wpAny_callSpecial?_slot (name := Str.ofString "__next__") hT F.slot_enumerate_next
      (wpAny_call_entry F.slot_enumerate_next hT F.entry_enumerate_next ?_ (F.args_enumerate_next_1 _))))
    show wpAny _ _ (field (.ref e) 2 >>= _) _ _ _
    refine wpAny_bind (wpAny_field he rfl (x := .ref it) rfl ?_)
    have hh : X.A.in1.handled = none := I.ok.hd hc
    refine wpAny_bind (wpAny_nextOf_tuple_end hh hit p (by simp; omega) fun h' x eb hx' => ?_)
    obtain ⟨o, ho, hcl⟩ := hx'
    refine wpAny_bind (wpAny_isInstance (T := "StopIteration") (b := true) ⟨o, ho, hcl⟩ isSubtype_stop ?_)
    exact wpAny_pure ⟨rfl, I.turned (t' := s.toks) (fun b o hb q => eb b o hb q) f0 f1 f3 f4 f5⟩
  self := fun A i s Q E st h => let ⟨⟨_, he⟩, _⟩ := st; wpAny_pyIter_enum he h
def iEnumT (K : PySem.W.Frag) (ta : TA) : TI := fun σ H R => ta σ H fun vs H1 => ∃ a xs, vs = [.ref a] ∧ SqT K H1 a xs ∧ R (IteT K a) H1
theorem pi_enumT {X : Cx} {e : Expr} {ta : TA} {p pos tpos : Pos} {elts : List Expr} {kk : Nat} (hg : Gl X "enumerate") (hm : X.mg "enumerate" = none) (ha : PA X [e] ta) (hs : starEach [e] X.env = [(false, eval e X.env)] := by rfl) :
    PI X (.Tuple elts kk tpos) (.Call (.Name "enumerate" p) [e] [] pos) (iEnumT X.K ta) := by
  refine ⟨fun pins s σ H R I h => ?_⟩
  refine Call_ (ld_blt I hg hm boot_enumerate (PyProof.Rows.callWith_type1 (thn (ha.run pos pins s σ H _ I h) fun us s1 ⟨vs, H1, I1, r1, q1⟩ => ?_) hs rfl))
  obtain ⟨a, xs, ex, hq, q⟩ := q1
  subst ex
  cases r1 with
  | cons r rr =>
    cases rr
    cases r
    obtain ⟨its, rv, p', _⟩ := I1.tuple hq
    have la : a < s1.heap.objs.size := by
      obtain ⟨o, ho, _⟩ := id p'
      exact Heap.lt_size ho
    refine enum1_call (begins_tuple a its.toArray) p' fun h' he hit hsz hk => wpAny_pyIter_enum he ?_
    have I2 : Inv X pins σ H1 { s1 with heap := h' } := I1.kept (t' := s1.toks) hk
    refine ⟨s1.heap.objs.size + 1, [s1.heap.objs.size + 1, s1.heap.objs.size], _, _, H1, rfl, I2, turn_enumT a (s1.heap.objs.size + 1) s1.heap.objs.size (Nat.succ_ne_self _) (Nat.ne_of_lt la) (Nat.ne_of_lt (Nat.lt_succ_of_lt la)), ⟨⟨.none, he⟩, ⟨_, hit, rfl, rfl⟩⟩, fun b hb => ?_, q⟩
    have hle : s1.heap.objs.size ≤ b := by
      have q : b = s1.heap.objs.size + 1 ∨ b = s1.heap.objs.size := by simpa using hb
      rcases q with q | q
      · rw [q]
        exact Nat.le_succ _
      · rw [q]
        exact Nat.le_refl _
    exact I1.fpOk hle (I1.hok.fresh hle)
theorem walk_enumT {K : PySem.W.Frag} {a : Addr} {xs : List V} : Walk (IteT K a) xs.length (fun H => SqT K H a xs) (YPair (fun i => some (.int (i : Nat))) (fun i => xs[i]?)) := by
  refine ⟨fun i _ hi q => ⟨xs, xs[i], q, by simp [hi]⟩, fun _ q => ⟨xs, q, Nat.le_refl _⟩, fun i H v H' _ q y => ?_⟩
  obtain ⟨T, x, h1, h2, h3, h4⟩ := y
  exact ⟨T, .int (i : Nat), x, h1, h2, h3, rfl, h4 xs q⟩
end ZE

namespace Z
open PySem PySem.Spec PyProof.Rows L2
section
variable {K : PySem.W.Frag} {g : TG} {te tl : TE} {vs : List Nat} {σ : L2.St} {H : Hp} {Q : VK} {a : Addr} {xs : List V}
/-- [e for x in t], t a tuple, over lists that may change -/
theorem lcT (ht : ∀ R : VK, R (.ref a) H → tl σ H R) (hS : SqT K H a xs) (hn : xs.length ≤ 90000) (m : Addr → Prop) (I : Hp → Prop) (R : Nat → V → Hp → Prop)
    (hm : ∀ b, m b → H b ≠ none) (hI : I H) (hIu : ∀ H' D o, H D = none → Gr m H H' → I H' → I (upd H' D o)) (hR : ∀ i y H' H'', R i y H' → Gr any H' H'' → R i y H'')
    (hs : ∀ (i : Nat) (x : V) (H' : Hp) (Q' : VK), xs[i]? = some x → Gr m H H' → I H' → (∀ y H3, Gr m H' H3 → I H3 → R i y H3 → Q' y H3) → g x (wipe σ vs) H' fun σ2 H2 => wipe σ2 vs = wipe σ vs ∧ te σ2 H2 Q')
    (k : ∀ D ys H', H D = none → Gr m H H' → I H' → H' D = some (.lst ys) → ys.length = xs.length → (∀ i y, ys[i]? = some y → R i y H') → Q (.ref D) H') : tLc (iTup K tl) g tYes te vs σ H Q :=
  ht _ ⟨a, rfl, ⟨xs, hS⟩, lc_all (H := H) walk_tup m I R hn (fun H' e => e.seqT hS) hm hI hIu hR (fun i x H' H'' Q' hi g1 g2 ⟨e, hx⟩ q => by
    subst e
    exact hs i x _ Q' hx g1 g2 q) k⟩
theorem lcL (ht : ∀ R : VK, R (.ref a) H → tl σ H R) (hS : SqL K H a xs) (hn : xs.length ≤ 90000) (m : Addr → Prop) (ha : ¬ m a) (I : Hp → Prop) (R : Nat → V → Hp → Prop)
    (hm : ∀ b, m b → H b ≠ none) (hI : I H) (hIu : ∀ H' D o, H D = none → Gr m H H' → I H' → I (upd H' D o)) (hR : ∀ i y H' H'', R i y H' → Gr any H' H'' → R i y H'')
    (hs : ∀ (i : Nat) (x : V) (H' : Hp) (Q' : VK), xs[i]? = some x → Gr m H H' → I H' → (∀ y H3, Gr m H' H3 → I H3 → R i y H3 → Q' y H3) → g x (wipe σ vs) H' fun σ2 H2 => wipe σ2 vs = wipe σ vs ∧ te σ2 H2 Q')
    (k : ∀ D ys H', H D = none → Gr m H H' → I H' → H' D = some (.lst ys) → ys.length = xs.length → (∀ i y, ys[i]? = some y → R i y H') → Q (.ref D) H') : tLc (iList K tl) g tYes te vs σ H Q :=
  ht _ ⟨a, rfl, ⟨xs, hS⟩, lc_all (H := H) walk_list m I R hn (fun H' e => e.seqL hS ha) hm hI hIu hR (fun i x H' H'' Q' hi g1 g2 ⟨e, hx⟩ q => by
    subst e
    exact hs i x _ Q' hx g1 g2 q) k⟩
/-- nothing changes, each element told by its place -/
theorem lcT0 (ht : ∀ R : VK, R (.ref a) H → tl σ H R) (hS : SqT K H a xs) (hn : xs.length ≤ 90000) (R : Nat → V → Hp → Prop) (hR : ∀ i y H' H'', R i y H' → Gr any H' H'' → R i y H'')
    (hs : ∀ (i : Nat) (x : V) (H' : Hp) (Q' : VK), xs[i]? = some x → Ex H H' → (∀ y H3, Ex H' H3 → R i y H3 → Q' y H3) → g x (wipe σ vs) H' fun σ2 H2 => wipe σ2 vs = wipe σ vs ∧ te σ2 H2 Q')
    (k : ∀ D ys H', H D = none → Ex H H' → H' D = some (.lst ys) → ys.length = xs.length → (∀ i y, ys[i]? = some y → R i y H') → Q (.ref D) H') : tLc (iTup K tl) g tYes te vs σ H Q :=
  lcT ht hS hn nob (fun _ => True) R (fun _ q => q.elim) trivial (fun _ _ _ _ _ _ => trivial) hR (fun i x H' Q' h1 h2 _ q => hs i x H' Q' h1 h2 fun y H3 e r => q y H3 e trivial r) fun D ys H' h1 h2 _ h3 h4 h5 => k D ys H' h1 h2 h3 h4 h5
theorem lcL0 (ht : ∀ R : VK, R (.ref a) H → tl σ H R) (hS : SqL K H a xs) (hn : xs.length ≤ 90000) (R : Nat → V → Hp → Prop) (hR : ∀ i y H' H'', R i y H' → Gr any H' H'' → R i y H'')
    (hs : ∀ (i : Nat) (x : V) (H' : Hp) (Q' : VK), xs[i]? = some x → Ex H H' → (∀ y H3, Ex H' H3 → R i y H3 → Q' y H3) → g x (wipe σ vs) H' fun σ2 H2 => wipe σ2 vs = wipe σ vs ∧ te σ2 H2 Q')
    (k : ∀ D ys H', H D = none → Ex H H' → H' D = some (.lst ys) → ys.length = xs.length → (∀ i y, ys[i]? = some y → R i y H') → Q (.ref D) H') : tLc (iList K tl) g tYes te vs σ H Q :=
  lcL ht hS hn nob id (fun _ => True) R (fun _ q => q.elim) trivial (fun _ _ _ _ _ _ => trivial) hR (fun i x H' Q' h1 h2 _ q => hs i x H' Q' h1 h2 fun y H3 e r => q y H3 e trivial r) fun D ys H' h1 h2 _ h3 h4 h5 => k D ys H' h1 h2 h3 h4 h5
theorem ext_of {ys zs : List V} (hl : ys.length = zs.length) (h : ∀ (i : Nat) (y : V), ys[i]? = some y → zs[i]? = some y) : ys = zs := by
  refine List.ext_getElem? fun i => ?_
  by_cases hi : i < ys.length
  · rw [h i ys[i] (List.getElem?_eq_getElem hi), List.getElem?_eq_getElem hi]
  · rw [List.getElem?_eq_none (by omega), List.getElem?_eq_none (by omega)]
/-- the elements are those of a known list -/
theorem lcTf (ht : ∀ R : VK, R (.ref a) H → tl σ H R) (hS : SqT K H a xs) (hn : xs.length ≤ 90000) (zs : List V) (hz : zs.length = xs.length)
    (hs : ∀ (i : Nat) (x z : V) (H' : Hp) (Q' : VK), xs[i]? = some x → zs[i]? = some z → Ex H H' → (∀ H3, Ex H' H3 → Q' z H3) → g x (wipe σ vs) H' fun σ2 H2 => wipe σ2 vs = wipe σ vs ∧ te σ2 H2 Q')
    (k : ∀ D H', H D = none → Ex H H' → H' D = some (.lst zs) → Q (.ref D) H') : tLc (iTup K tl) g tYes te vs σ H Q := by
  refine lcT0 ht hS hn (fun i y _ => zs[i]? = some y) (fun _ _ _ _ q _ => q) (fun i x H' Q' hx e q => ?_) fun D ys H' hD e h1 h2 h3 => ?_
  · have hi : i < zs.length := by
      rw [hz]
      exact (List.getElem?_eq_some_iff.mp hx).1
    exact hs i x zs[i] H' Q' hx (List.getElem?_eq_getElem hi) e fun H3 e3 => q _ H3 e3 (List.getElem?_eq_getElem hi)
  · rw [ext_of (h2.trans hz.symm) h3] at h1
    exact k D H' hD e h1
theorem lcLf (ht : ∀ R : VK, R (.ref a) H → tl σ H R) (hS : SqL K H a xs) (hn : xs.length ≤ 90000) (zs : List V) (hz : zs.length = xs.length)
    (hs : ∀ (i : Nat) (x z : V) (H' : Hp) (Q' : VK), xs[i]? = some x → zs[i]? = some z → Ex H H' → (∀ H3, Ex H' H3 → Q' z H3) → g x (wipe σ vs) H' fun σ2 H2 => wipe σ2 vs = wipe σ vs ∧ te σ2 H2 Q')
    (k : ∀ D H', H D = none → Ex H H' → H' D = some (.lst zs) → Q (.ref D) H') : tLc (iList K tl) g tYes te vs σ H Q := by
  refine lcL0 ht hS hn (fun i y _ => zs[i]? = some y) (fun _ _ _ _ q _ => q) (fun i x H' Q' hx e q => ?_) fun D ys H' hD e h1 h2 h3 => ?_
  · have hi : i < zs.length := by
      rw [hz]
      exact (List.getElem?_eq_some_iff.mp hx).1
    exact hs i x zs[i] H' Q' hx (List.getElem?_eq_getElem hi) e fun H3 e3 => q _ H3 e3 (List.getElem?_eq_getElem hi)
  · rw [ext_of (h2.trans hz.symm) h3] at h1
    exact k D H' hD e h1
/-- [x for x in l if t] -/
theorem lcFilt {tt : TT} {j : Nat} (ht : ∀ R : VK, R (.ref a) H → tl σ H R) (hS : SqL K H a xs) (hn : xs.length ≤ 90000) (hj : j < σ.length) (p : V → Bool)
    (hs : ∀ (x : V) (H' : Hp) (F : Bool → Hp → Prop), x ∈ xs → Ex H H' → (∀ H3, Ex H' H3 → F (p x) H3) → tt ((wipe σ [j]).set j (some x)) H' F)
    (k : ∀ D H', H D = none → Ex H H' → H' D = some (.lst (xs.filter p)) → Q (.ref D) H') : tLc (iList K tl) (gName j) tt (tVar j) [j] σ H Q := by
  refine ht _ ⟨a, rfl, ⟨xs, hS⟩, fun D hD => lc_it walk_list (fun i H' => Ex H H' ∧ H' D = some (.lst ((xs.take i).filter p))) ⟨.new hD, upd_same⟩ (fun i H' _ q => q.1.seqL hS id) ?_ ?_⟩
  · rintro i x H' H'' hi ⟨q1, q2⟩ ⟨e, hx⟩
    subst e
    have hjl : j < (wipe σ [j]).length := by
      rw [wipe_length]
      exact hj
    refine ⟨?_, ?_⟩
    · show ((wipe σ []).set j none |>.set j (some x)).set j none = (wipe σ []).set j none
      rw [List.set_set, List.set_set]
    · have et : xs.take (i + 1) = xs.take i ++ [x] := by
        rw [List.take_add_one, hx]
        rfl
      refine hs x _ _ (List.mem_of_getElem? hx) q1 fun H3 e3 => ?_
      have e4 := e3.get q2
      cases hp : p x
      · refine iteF ⟨q1.trans e3, ?_⟩
        rw [et, List.filter_append, List.filter_cons, hp]
        simpa using e4
      · refine iteT ⟨x, List.getElem?_set_self hjl, _, e4, smallt ?_, (q1.trans e3).put e4 (.inl hD), ?_⟩
        · have h1 := List.length_filter_le p (xs.take i)
          rw [List.length_take] at h1
          omega
        · rw [upd_same, et, List.filter_append, List.filter_cons, hp]
          rfl
  · rintro H' ⟨q1, q2⟩
    rw [List.take_length] at q2
    exact k D H' hD q1 q2
end
abbrev rLenQ (K : PySem.W.Frag) : List V → Hp → VK → Prop := fun xs H Q => ∃ p ys, xs = [.ref p] ∧ (SqL K H p ys ∨ SqT K H p ys) ∧ Q (.int ys.length) H
abbrev rTupOf (K : PySem.W.Frag) : List V → Hp → VK → Prop := fun xs H Q => ∃ p ys, xs = [.ref p] ∧ ((SqL K H p ys ∧ ∀ l, H l = none → Q (.ref l) (upd H l (.tup ys))) ∨ (SqT K H p ys ∧ Q (.ref p) H))
section
variable {K : PySem.W.Frag} {H : Hp}
theorem DTs.len {xs : List V} {ds : List D} (h : DTs K H xs ds) : xs.length = ds.length := by
  induction ds generalizing xs with
  | nil => cases h; rfl
  | cons d ds ih =>
    cases h with
    | cons h1 h2 => rw [List.length_cons, List.length_cons, ih h2]
theorem DTs.get {xs : List V} {ds : List D} (h : DTs K H xs ds) {i : Nat} {x : V} (hx : xs[i]? = some x) : ∃ d, ds[i]? = some d ∧ DT K H x d := by
  induction ds generalizing xs i with
  | nil => cases h; simp at hx
  | cons d ds ih =>
    cases h with
    | cons h1 h2 =>
      cases i with
      | zero =>
        cases hx
        exact ⟨d, rfl, h1⟩
      | succ i => exact ih h2 (i := i) (by simpa using hx)
theorem DTs.three {xs : List V} {l : List D} (h : DTs K H xs l) (hn : xs.length = 3) : ∃ x1 x2 x3 d1 d2 d3, xs = [x1, x2, x3] ∧ l = [d1, d2, d3] ∧ DT K H x1 d1 ∧ DT K H x2 d2 ∧ DT K H x3 d3 := by
  cases h with
  | nil => cases hn
  | cons h1 h =>
    cases h with
    | nil => cases hn
    | cons h2 h =>
      cases h with
      | nil => cases hn
      | cons h3 h =>
        cases h with
        | nil => exact ⟨_, _, _, _, _, _, rfl, rfl, h1, h2, h3⟩
        | cons h4 h =>
          simp at hn
theorem DTs.strs {xs : List V} {ss : List Str} (h : DTs K H xs (ss.map D.str)) : xs = ss.map V.str := by
  induction ss generalizing xs with
  | nil => cases h; rfl
  | cons s ss ih =>
    cases h with
    | cons h1 h2 =>
      cases h1
      rw [ih h2]
      rfl
theorem DTs.ofStrs (ss : List Str) : DTs K H (ss.map V.str) (ss.map D.str) := by
  induction ss with
  | nil => exact .nil
  | cons s ss ih => exact .cons (.str s) ih
theorem DTs.ofInts (ns : List Int) : DTs K H (ns.map V.int) (ns.map D.int) := by
  induction ns with
  | nil => exact .nil
  | cons s ss ih => exact .cons (.int s) ih
theorem DTs.ints {xs : List V} {ns : List Int} (h : DTs K H xs (ns.map D.int)) : xs = ns.map V.int := by
  induction ns generalizing xs with
  | nil => cases h; rfl
  | cons s ss ih =>
    cases h with
    | cons h1 h2 =>
      cases h1
      rw [ih h2]
      rfl
end
end Z
namespace Z
open PySem PySem.Spec PyProof.Rows L2
section
variable {K : PySem.W.Frag} {H : Hp}
theorem dp_strs (ss : List Str) : DpAll K H (ss.map V.str) (ss.map PyData.str) := by
  induction ss with
  | nil => exact .nil
  | cons s ss ih => exact .cons (.str s) ih
end
theorem eqv_strs : ∀ ss ts : List Str, PyData.eqvAll (ss.map PyData.str) (ts.map PyData.str) = decide (ss = ts)
  | [], [] => by simp [PyData.eqvAll]
  | [], _ :: _ => by simp [PyData.eqvAll]
  | _ :: _, [] => by simp [PyData.eqvAll]
  | s :: ss, t :: ts => by
    simp only [List.map_cons, PyData.eqvAll, PyData.eqv]
    rw [eqv_strs ss ts]
    by_cases h : s = t
    · subst h
      simp
    · simp [h]
theorem lay_strs : ∀ {ss : List Str}, (∀ s ∈ ss, PyData.strOk s = true) → PyData.canLayAll0 (ss.map PyData.str) = true
  | [], _ => rfl
  | s :: ss, h => by
    simp only [List.map_cons, PyData.canLayAll0, PyData.canLay0, Bool.and_eq_true]
    exact ⟨h s (List.mem_cons_self ..), lay_strs fun t ht => h t (List.mem_cons_of_mem _ ht)⟩
theorem depth_strs : ∀ ss : List Str, PyData.depthAll (ss.map PyData.str) = 0
  | [] => rfl
  | s :: ss => by
    simp only [List.map_cons, PyData.depthAll, PyData.depth]
    rw [depth_strs ss]
    rfl
theorem shaped_strs {ss : List Str} (h : ∀ s ∈ ss, PyData.strOk s = true) : SeqAt.shaped (.tuple (ss.map PyData.str)) = true := by
  unfold SeqAt.shaped
  rw [Bool.and_eq_true]
  refine ⟨by simp only [PyData.canLay0]; exact lay_strs h, decide_eq_true ?_⟩
  simp only [PyData.depth]
  rw [depth_strs]
  decide
theorem strOk_of {s : Str} (h : nameOk s = true) : PyData.strOk s = true := by
  unfold nameOk at h
  rw [Bool.and_eq_true] at h
  have h2 := h.2
  unfold PyData.strOk
  rw [← Array.all_toList, List.all_eq_true]
  intro c hc
  have h3 := List.all_eq_true.mp h2 c hc
  unfold lowdig lower at h3
  simp only [Bool.or_eq_true, Bool.and_eq_true, decide_eq_true_eq] at h3
  simp only [decide_eq_true_eq]
  omega
theorem inV_strs (s : Str) (ss : List Str) : inV (.str s) (ss.map V.str) = decide (s ∈ ss) := by
  induction ss with
  | nil => rfl
  | cons t ss ih =>
    have e : inV (.str s) ((t :: ss).map V.str) = (eqV (.str t) (.str s) || inV (.str s) (ss.map V.str)) := rfl
    rw [e, ih]
    have e2 : eqV (.str t) (.str s) = (t == s) := rfl
    rw [e2]
    by_cases h : t = s
    · subst h
      simp
    · simp [h, Ne.symm h]
theorem flat_strs (ss : List Str) : (ss.map V.str).all flatV = true := by
  rw [List.all_eq_true]
  intro v hv
  obtain ⟨s, _, rfl⟩ := List.mem_map.mp hv
  rfl
theorem filter_strs (p : V → Bool) (ss : List Str) : (ss.map V.str).filter p = (ss.filter fun s => p (.str s)).map V.str := by
  rw [List.filter_map]
  rfl
end Z

namespace Z
open PySem PySem.Spec PyProof.Rows L2 ZE
section
variable {K : PySem.W.Frag} {g : TG} {tb : TS} {tl : TE} {ta : TA} {Dn : Ends} {σ : L2.St} {H : Hp} {a : Addr} {xs : List V}
/-! ### loops -/
theorem forE (ht : ∀ R : List V → Hp → Prop, R [.ref a] H → ta σ H R) (hS : SqT K H a xs) (Pv : Nat → L2.St → Hp → Prop) (h0 : Pv 0 σ H) (hG : ∀ i σ' H', Pv i σ' H' → SqT K H' a xs)
    (hs : ∀ (i : Nat) (x : V) T σ' H', xs[i]? = some x → Pv i σ' H' → H' T = none → g (.ref T) σ' (upd H' T (.tup [.int (i : Int), x])) fun σ2 H2 => tb { Dn with nx := Pv (i + 1), ct := Pv (i + 1), bk := Dn.nx } σ2 H2)
    (hd : ∀ σ' H', Pv xs.length σ' H' → Dn.nx σ' H') : tFor (iEnumT K ta) g tb Dn σ H :=
  ht _ ⟨a, xs, rfl, hS, for_it walk_enumT Pv h0 (fun i σ' H' _ p => hG i σ' H' p) (fun i x σ' H' H'' hi p y => by
    obtain ⟨T, u, v, rfl, hT, rfl, h1, h2⟩ := y
    cases h1
    exact hs i v T σ' H' h2 p hT) hd⟩
theorem forTp (ht : ∀ R : VK, R (.ref a) H → tl σ H R) (hS : SqT K H a xs) (Pv : Nat → L2.St → Hp → Prop) (h0 : Pv 0 σ H) (hG : ∀ i σ' H', Pv i σ' H' → SqT K H' a xs)
    (hs : ∀ (i : Nat) (x : V) σ' H', xs[i]? = some x → Pv i σ' H' → g x σ' H' fun σ2 H2 => tb { Dn with nx := Pv (i + 1), ct := Pv (i + 1), bk := Dn.nx } σ2 H2)
    (hd : ∀ σ' H', Pv xs.length σ' H' → Dn.nx σ' H') : tFor (iTup K tl) g tb Dn σ H :=
  ht _ ⟨a, rfl, ⟨xs, hS⟩, for_tup Pv h0 (fun i σ' H' _ p => hG i σ' H' p) (fun i x σ' H' hx p => hs i x σ' H' hx p) hd⟩
theorem forLs (ht : ∀ R : VK, R (.ref a) H → tl σ H R) (hS : SqL K H a xs) (Pv : Nat → L2.St → Hp → Prop) (h0 : Pv 0 σ H) (hG : ∀ i σ' H', Pv i σ' H' → SqL K H' a xs)
    (hs : ∀ (i : Nat) (x : V) σ' H', xs[i]? = some x → Pv i σ' H' → g x σ' H' fun σ2 H2 => tb { Dn with nx := Pv (i + 1), ct := Pv (i + 1), bk := Dn.nx } σ2 H2)
    (hd : ∀ σ' H', Pv xs.length σ' H' → Dn.nx σ' H') : tFor (iList K tl) g tb Dn σ H :=
  ht _ ⟨a, rfl, ⟨xs, hS⟩, for_list Pv h0 (fun i σ' H' _ p => hG i σ' H' p) (fun i x σ' H' hx p => hs i x σ' H' hx p) hd⟩
theorem forSt {z : Str} (ht : ∀ R : VK, R (.str z) H → tl σ H R) (Pv : Nat → L2.St → Hp → Prop) (h0 : Pv 0 σ H)
    (hs : ∀ (i c : Nat) σ' H', z.cps.toList[i]? = some c → Pv i σ' H' → g (.str ⟨#[c]⟩) σ' H' fun σ2 H2 => tb { Dn with nx := Pv (i + 1), ct := Pv (i + 1), bk := Dn.nx } σ2 H2)
    (hd : ∀ σ' H', Pv z.cps.toList.length σ' H' → Dn.nx σ' H') : tFor (iStr tl) g tb Dn σ H :=
  ht _ ⟨z, rfl, for_it walk_str Pv h0 (fun _ _ _ _ _ => trivial) (fun i x σ' H' H'' hi p y => by
    obtain ⟨rfl, c, h1, rfl⟩ := y
    exact hs i c σ' H'' (by rw [Array.getElem?_toList]; exact h1) p) fun σ' H' p => hd σ' H' (by rw [Array.length_toList]; exact p)⟩
/-- for i in range(n) -/
theorem forR {n : Int} (ht : ∀ R : List V → Hp → Prop, R [.int n] H → ta σ H R) (hn : 0 ≤ n ∧ n ≤ 100000) (Pv : Nat → L2.St → Hp → Prop) (h0 : Pv 0 σ H)
    (hs : ∀ (i : Nat) σ' H', (i : Int) < n → Pv i σ' H' → g (.int (i : Int)) σ' H' fun σ2 H2 => tb { Dn with nx := Pv (i + 1), ct := Pv (i + 1), bk := Dn.nx } σ2 H2)
    (hd : ∀ σ' H', Pv n.toNat σ' H' → Dn.nx σ' H') : tFor (iRng1 ta) g tb Dn σ H :=
  ht _ ⟨n, rfl, by omega, by omega, for_range (lo := 0) (n := n.toNat) Pv h0 (fun i σ' H' hi p => by
    have e0 : (0 : Int) + (i : Int) = (i : Int) := Int.zero_add _
    rw [e0]
    exact hs i σ' H' (by omega) p) hd⟩
/-! ### slices -/
theorem cut_take (i : Nat) : cutV xs none (some (i : Int)) = xs.take i := by
  unfold cutV
  rw [show HT.sIx xs.length xs.length (some (i : Int)) = min i xs.length from HT.sIx_nat xs.length xs.length i, HT.sIx_none]
  rw [List.drop_zero, Nat.sub_zero]
  by_cases h : i ≤ xs.length
  · rw [Nat.min_eq_left h]
  · rw [Nat.min_eq_right (by omega), List.take_length, List.take_of_length_le (by omega)]
theorem slA_take {Q : VK} {i : Nat} (hS : SqT K H a xs) (k : ∀ p H', Ex H H' → SqT K H' p (xs.take i) → Q (.ref p) H') : rSlA K (.ref a) none (some (i : Int)) H Q := by
  refine ⟨a, xs, rfl, hS, fun h => ?_, fun _ p hp => ?_⟩
  · have e : cutV xs none (some (i : Int)) = xs := by
      unfold cutV
      rw [h.1, h.2, List.drop_zero, Nat.sub_zero, List.take_length]
    rw [cut_take] at e
    exact k a H .refl (by rw [e]; exact hS)
  · rw [cut_take]
    exact k p _ (.new hp) (sqT upd_same)
end
/-! ### orders as data -/
structure Kd where
  n : Str
  c : Int
  w : List Int
structure Pn where
  n : Str
  s : Int
  r : List Str
def Kd.d (k : Kd) : D := .tup [.str k.n, .int k.c, .tup (k.w.map D.int)]
def Pn.d (p : Pn) : D := .tup [.str p.n, .int p.s, .tup (p.r.map D.str)]
structure Kd.ok (m : Nat) (k : Kd) : Prop where
  n : nameOk k.n = true
  c : 1 ≤ k.c ∧ k.c ≤ 3
  l : k.w.length = m
  w : ∀ x ∈ k.w, 0 ≤ x ∧ x ≤ 6
structure Pn.ok (ks : List Str) (p : Pn) : Prop where
  n : nameOk p.n = true
  s : 1 ≤ p.s ∧ p.s ≤ 3
  r : p.r = ks.filter fun k => decide (k ∈ p.r)
structure Od where
  ms : List Str
  ks : List Kd
  ps : List Pn
structure Od.ok (o : Od) : Prop where
  m1 : 1 ≤ o.ms.length ∧ o.ms.length ≤ 2
  m2 : ∀ s ∈ o.ms, nameOk s = true
  m3 : o.ms.Nodup
  k1 : 1 ≤ o.ks.length ∧ o.ks.length ≤ 4
  k2 : ∀ k ∈ o.ks, Kd.ok o.ms.length k
  k3 : (o.ks.map Kd.n).Nodup
  p1 : 2 ≤ o.ps.length ∧ o.ps.length ≤ 3
  p2 : o.ms.length = 2 → o.ps.length = 2
  p3 : ∀ p ∈ o.ps, Pn.ok (o.ks.map Kd.n) p
  p4 : (o.ps.map Pn.n).Nodup
end Z
namespace Z
open PySem PySem.Spec PyProof.Rows L2 ZE
section
variable {K : PySem.W.Frag} {H : Hp}
theorem DT.tri {x : V} {a b c : D} (h : DT K H x (.tup [a, b, c])) : ∃ p u v w, x = .ref p ∧ SqT K H p [u, v, w] ∧ DT K H u a ∧ DT K H v b ∧ DT K H w c := by
  cases h with
  | tup hS hs =>
    cases hs with
    | cons h1 hs =>
      cases hs with
      | cons h2 hs =>
        cases hs with
        | cons h3 hs =>
          cases hs
          exact ⟨_, _, _, _, rfl, hS, h1, h2, h3⟩
theorem DT.kd {x : V} {k : Kd} (h : DT K H x k.d) : ∃ p b, x = .ref p ∧ SqT K H p [.str k.n, .int k.c, .ref b] ∧ SqT K H b (k.w.map V.int) := by
  obtain ⟨p, u, v, w, rfl, h1, h2, h3, h4⟩ := DT.tri (show DT K H x (.tup [.str k.n, .int k.c, .tup (k.w.map D.int)]) from h)
  cases h2
  cases h3
  cases h4 with
  | tup h5 h6 =>
    rw [h6.ints] at h5
    exact ⟨_, _, rfl, h1, h5⟩
theorem DT.pn {x : V} {p : Pn} (h : DT K H x p.d) : ∃ a b, x = .ref a ∧ SqT K H a [.str p.n, .int p.s, .ref b] ∧ SqT K H b (p.r.map V.str) := by
  obtain ⟨a, u, v, w, rfl, h1, h2, h3, h4⟩ := DT.tri (show DT K H x (.tup [.str p.n, .int p.s, .tup (p.r.map D.str)]) from h)
  cases h2
  cases h3
  cases h4 with
  | tup h5 h6 =>
    rw [h6.strs] at h5
    exact ⟨_, _, rfl, h1, h5⟩
theorem DTs.getM {α : Type} {f : α → D} {xs : List V} {ks : List α} (h : DTs K H xs (ks.map f)) {i : Nat} {x : V} (hx : xs[i]? = some x) : ∃ k, ks[i]? = some k ∧ DT K H x (f k) := by
  obtain ⟨d, h1, h2⟩ := h.get hx
  rw [List.getElem?_map] at h1
  cases e : ks[i]? with
  | none =>
    rw [e] at h1
    cases h1
  | some k =>
    rw [e] at h1
    cases h1
    exact ⟨k, rfl, h2⟩
theorem DTs.lenM {α : Type} {f : α → D} {xs : List V} {ks : List α} (h : DTs K H xs (ks.map f)) : xs.length = ks.length := by
  rw [h.len, List.length_map]
end
theorem not_mem_take {ss : List Str} (hd : ss.Nodup) {i : Nat} {s : Str} (h : ss[i]? = some s) : s ∉ ss.take i := by
  intro hm
  obtain ⟨j, hj, e5⟩ := List.getElem_of_mem hm
  rw [List.length_take] at hj
  rw [List.getElem_take] at e5
  have hi : i < ss.length := (List.getElem?_eq_some_iff.mp h).1
  have e6 : ss[i] = s := (List.getElem?_eq_some_iff.mp h).2
  have e7 := (List.getElem_inj hd).mp (e5.trans e6.symm)
  omega
end Z
namespace Z
open PySem PySem.Spec PyProof.Rows L2 ZE
/-! ### texts of orders -/
abbrev num (i : Int) : Str := ((toString i : String) : Str)
theorem num_len {i : Int} (h : 0 ≤ i ∧ i ≤ 6) : (num i).length = 1 := by
  have h7 : i = 0 ∨ i = 1 ∨ i = 2 ∨ i = 3 ∨ i = 4 ∨ i = 5 ∨ i = 6 := by omega
  rcases h7 with rfl | rfl | rfl | rfl | rfl | rfl | rfl <;> decide +kernel
theorem app_len (a b : Str) : (a ++ b).length = a.length + b.length := by
  show (a.cps ++ b.cps).size = a.cps.size + b.cps.size
  exact Array.size_append
theorem empty_app (a : Str) : Str.empty ++ a = a := by
  show (⟨#[] ++ a.cps⟩ : Str) = a
  rw [Array.empty_append]
theorem app_assoc (a b c : Str) : a ++ b ++ c = a ++ (b ++ c) := by
  show (⟨a.cps ++ b.cps ++ c.cps⟩ : Str) = ⟨a.cps ++ (b.cps ++ c.cps)⟩
  rw [Array.append_assoc]
theorem sjoin_len (a : Str) : ∀ ys : List Str, (Str.join a ys).length ≤ (ys.map (·.length)).sum + ys.length * a.length
  | [] => by show 0 ≤ _; exact Nat.zero_le _
  | [x] => by
    show x.length ≤ ([x.length]).sum + 1 * a.length
    simp
  | x :: y :: r => by
    have ih := sjoin_len a (y :: r)
    have e : Str.join a (x :: y :: r) = x ++ a ++ Str.join a (y :: r) := rfl
    rw [e, app_len, app_len]
    simp only [List.map_cons, List.sum_cons, List.length_cons, Nat.add_mul, Nat.one_mul] at ih ⊢
    omega
theorem join_len (a : Str) (ys : List Str) : (Txt.join a ys).length ≤ (ys.map (·.length)).sum + ys.length * a.length := by
  rw [TL.join_eq]
  exact sjoin_len a ys
theorem sum_le {l : List Nat} {b : Nat} (h : ∀ x ∈ l, x ≤ b) : l.sum ≤ l.length * b := by
  induction l with
  | nil => simp
  | cons x l ih =>
    have h1 := h x (List.mem_cons_self ..)
    have h2 := ih fun y hy => h y (List.mem_cons_of_mem _ hy)
    rw [List.sum_cons, List.length_cons, Nat.add_mul, Nat.one_mul]
    omega
theorem join_le {a : Str} {ys : List Str} {n b : Nat} (hn : ys.length ≤ n) (h : ∀ y ∈ ys, y.length ≤ b) : (ys.map (·.length)).sum + ys.length * a.length ≤ n * (b + a.length) := by
  have h1 : (ys.map (·.length)).sum ≤ ys.length * b := by
    have h2 := sum_le (l := ys.map (·.length)) (b := b) fun x hx => by
      obtain ⟨y, hy, rfl⟩ := List.mem_map.mp hx
      exact h y hy
    rwa [List.length_map] at h2
  calc (ys.map (·.length)).sum + ys.length * a.length ≤ ys.length * b + ys.length * a.length := Nat.add_le_add_right h1 _
    _ = ys.length * (b + a.length) := by rw [Nat.mul_add]
    _ ≤ n * (b + a.length) := Nat.mul_le_mul_right _ hn
def rowM (ms : List Str) : Str := ("measure " : Str) ++ Txt.join (", " : Str) ms
def rowK (k : Kd) : Str := Str.empty ++ ("kind " : Str) ++ k.n ++ (" " : Str) ++ num k.c ++ (": " : Str) ++ Txt.join (", " : Str) (k.w.map num)
def rowP (p : Pn) : Str := if p.r = [] then Str.empty ++ ("person " : Str) ++ p.n ++ (" " : Str) ++ num p.s else Str.empty ++ ("person " : Str) ++ p.n ++ (" " : Str) ++ num p.s ++ (" without " : Str) ++ Txt.join (", " : Str) p.r
def Od.text (o : Od) : Str := Txt.join ("\n" : Str) (rowM o.ms :: (o.ks.map rowK ++ o.ps.map rowP))
theorem l_kind : ("kind " : Str).length = 5 := by decide +kernel
theorem l_person : ("person " : Str).length = 7 := by decide +kernel
theorem l_measure : ("measure " : Str).length = 8 := by decide +kernel
theorem l_blank : (" " : Str).length = 1 := by decide +kernel
theorem l_colon : (": " : Str).length = 2 := by decide +kernel
theorem l_comma : (", " : Str).length = 2 := by decide +kernel
theorem l_without : (" without " : Str).length = 9 := by decide +kernel
theorem l_line : ("\n" : Str).length = 1 := by decide +kernel
theorem l_empty : Str.empty.length = 0 := rfl
section
variable {o : Od} (h : o.ok)
include h
theorem Od.ms8 : ∀ s ∈ o.ms, s.length ≤ 8 := fun s hs => (nameOk_len (h.m2 s hs)).2
theorem Od.r_mem {p : Pn} (hp : p ∈ o.ps) : ∀ s ∈ p.r, s ∈ o.ks.map Kd.n := fun s hs => by
  have e := (h.p3 p hp).r
  rw [e] at hs
  exact (List.mem_filter.mp hs).1
theorem Od.r_len {p : Pn} (hp : p ∈ o.ps) : p.r.length ≤ 4 := by
  rw [(h.p3 p hp).r]
  have h1 := List.length_filter_le (fun k => decide (k ∈ p.r)) (o.ks.map Kd.n)
  rw [List.length_map] at h1
  have h2 := h.k1.2
  omega
theorem Od.r_ok {p : Pn} (hp : p ∈ o.ps) : ∀ s ∈ p.r, nameOk s = true := fun s hs => by
  obtain ⟨k, hk, rfl⟩ := List.mem_map.mp (Od.r_mem h hp s hs)
  exact (h.k2 k hk).n
theorem Od.joinM : (o.ms.map (·.length)).sum + o.ms.length * (", " : Str).length ≤ 20 := by
  have h1 := join_le (a := (", " : Str)) h.m1.2 (Od.ms8 h)
  rw [l_comma] at h1 ⊢
  omega
theorem Od.joinW {k : Kd} (hk : k ∈ o.ks) : ((k.w.map num).map (·.length)).sum + (k.w.map num).length * (", " : Str).length ≤ 6 := by
  have h1 := join_le (a := (", " : Str)) (ys := k.w.map num) (n := 2) (b := 1) (by rw [List.length_map, (h.k2 k hk).l]; exact h.m1.2) fun y hy => by
    obtain ⟨x, hx, rfl⟩ := List.mem_map.mp hy
    rw [num_len ((h.k2 k hk).w x hx)]
    exact Nat.le_refl _
  rw [l_comma] at h1 ⊢
  omega
theorem Od.joinR {p : Pn} (hp : p ∈ o.ps) : (p.r.map (·.length)).sum + p.r.length * (", " : Str).length ≤ 40 := by
  have h1 := join_le (a := (", " : Str)) (ys := p.r) (n := 4) (b := 8) (Od.r_len h hp) fun y hy => (nameOk_len (Od.r_ok h hp y hy)).2
  rw [l_comma] at h1 ⊢
  omega
theorem Od.lM : (rowM o.ms).length ≤ 100 := by
  unfold rowM
  rw [app_len, l_measure]
  have := join_len (", " : Str) o.ms
  have := Od.joinM h
  omega
theorem Od.lK {k : Kd} (hk : k ∈ o.ks) : (rowK k).length ≤ 100 := by
  unfold rowK
  rw [app_len, app_len, app_len, app_len, app_len, app_len, l_empty, l_kind, l_blank, l_colon]
  have h1 := join_len (", " : Str) (k.w.map num)
  have h2 := Od.joinW h hk
  have h3 := (nameOk_len (h.k2 k hk).n).2
  have h4 := num_len (i := k.c) (by have := (h.k2 k hk).c; omega)
  omega
theorem Od.lP {p : Pn} (hp : p ∈ o.ps) : (rowP p).length ≤ 100 := by
  unfold rowP
  have h1 := join_len (", " : Str) p.r
  have h2 := Od.joinR h hp
  have h3 := (nameOk_len (h.p3 p hp).n).2
  have h4 := num_len (i := p.s) (by have := (h.p3 p hp).s; omega)
  split
  · rw [app_len, app_len, app_len, app_len, l_empty, l_person, l_blank]
    omega
  · rw [app_len, app_len, app_len, app_len, app_len, app_len, l_empty, l_person, l_blank, l_without]
    omega
theorem Od.joinT : ((rowM o.ms :: (o.ks.map rowK ++ o.ps.map rowP)).map (·.length)).sum + (rowM o.ms :: (o.ks.map rowK ++ o.ps.map rowP)).length * ("\n" : Str).length ≤ 1000 := by
  have h1 := join_le (a := ("\n" : Str)) (ys := rowM o.ms :: (o.ks.map rowK ++ o.ps.map rowP)) (n := 8) (b := 100) (by
    rw [List.length_cons, List.length_append, List.length_map, List.length_map]
    have := h.k1.2
    have := h.p1.2
    omega) fun y hy => by
      rcases List.mem_cons.mp hy with rfl | hy
      · exact Od.lM h
      · rcases List.mem_append.mp hy with hy | hy
        · obtain ⟨k, hk, rfl⟩ := List.mem_map.mp hy
          exact Od.lK h hk
        · obtain ⟨p, hp, rfl⟩ := List.mem_map.mp hy
          exact Od.lP h hp
  rw [l_line] at h1 ⊢
  omega
end
end Z
namespace Z
open PySem PySem.Spec PyProof.Rows L2 ZE
/-! ### what is due -/
def worth (ks : List Kd) (j : Nat) : Int := (ks.map fun k => k.c * k.w.getD j 0).sum
def shares (ps : List Pn) : Int := (ps.map Pn.s).sum
def gcdI (t b : Int) : Int := ((Nat.gcd t.natAbs b.natAbs : Nat) : Int)
def lowest (t b : Int) : Int × Int := (t / gcdI t b, b / gcdI t b)
def pairD (q : Int × Int) : D := .tup [.int q.1, .int q.2]
def dueP (o : Od) (n : Int) (p : Pn) : List (Int × Int) := (List.range o.ms.length).map fun j => lowest (n * worth o.ks j * p.s) (shares o.ps)
def dueD (o : Od) (n : Int) : D := .tup (o.ps.map fun p => .tup ((dueP o n p).map pairD))
theorem gcdI_pos {t b : Int} (h : 0 < b) : 0 < gcdI t b := by
  unfold gcdI
  have : 0 < Nat.gcd t.natAbs b.natAbs := Nat.gcd_pos_of_pos_right _ (by omega)
  omega
theorem gcdI_le {t b : Int} (h : 0 < b) : gcdI t b ≤ b := by
  unfold gcdI
  have : Nat.gcd t.natAbs b.natAbs ≤ b.natAbs := Nat.gcd_le_right _ (by omega)
  omega
section
variable {K : PySem.W.Frag} {H : Hp}
theorem DTs.of {ys : List V} {ds : List D} (hl : ys.length = ds.length) (h : ∀ (i : Nat) (y : V), ys[i]? = some y → ∃ d, ds[i]? = some d ∧ DT K H y d) : DTs K H ys ds := by
  induction ys generalizing ds with
  | nil =>
    cases ds with
    | nil => exact .nil
    | cons d ds => cases hl
  | cons y ys ih =>
    cases ds with
    | nil => cases hl
    | cons d ds =>
      obtain ⟨d', h1, h2⟩ := h 0 y rfl
      cases h1
      exact .cons h2 (ih (Nat.succ.inj hl) fun i z hz => h (i + 1) z hz)
theorem DT.pair {x : V} {q : Int × Int} (h : DT K H x (pairD q)) : ∃ a, x = .ref a ∧ SqT K H a [.int q.1, .int q.2] := by
  cases h with
  | tup hS hs =>
    cases hs with
    | cons h1 hs =>
      cases hs with
      | cons h2 hs =>
        cases hs
        cases h1
        cases h2
        exact ⟨_, rfl, hS⟩
theorem DT.ofPair {a : Addr} {q : Int × Int} (h : SqT K H a [.int q.1, .int q.2]) : DT K H (.ref a) (pairD q) := .tup h (.cons (.int _) (.cons (.int _) .nil))
end
theorem worth_bound {ks : List Kd} {m : Nat} (h : ∀ k ∈ ks, Kd.ok m k) (hl : ks.length ≤ 4) (j : Nat) : 0 ≤ worth ks j ∧ worth ks j ≤ 100 := by
  have key : ∀ l : List Kd, (∀ k ∈ l, Kd.ok m k) → 0 ≤ worth l j ∧ worth l j ≤ 18 * l.length := by
    intro l
    induction l with
    | nil =>
      intro _
      exact ⟨Int.le_refl 0, Int.le_refl 0⟩
    | cons k l ih =>
      intro hk
      have h1 := ih fun x hx => hk x (List.mem_cons_of_mem _ hx)
      have h2 := hk k (List.mem_cons_self ..)
      have e : worth (k :: l) j = k.c * k.w.getD j 0 + worth l j := by simp [worth]
      have h3 : 0 ≤ k.w.getD j 0 ∧ k.w.getD j 0 ≤ 6 := by
        rw [List.getD_eq_getElem?_getD]
        cases e4 : k.w[j]? with
        | none => exact ⟨by decide, by decide⟩
        | some x => exact h2.w x (List.mem_of_getElem? e4)
      have h5 : 0 ≤ k.c * k.w.getD j 0 ∧ k.c * k.w.getD j 0 ≤ 18 := by
        have hc := h2.c
        generalize k.w.getD j 0 = y at h3
        have hc3 : k.c = 1 ∨ k.c = 2 ∨ k.c = 3 := by omega
        rcases hc3 with e | e | e <;> rw [e] <;> omega
      rw [e, List.length_cons]
      omega
  have := key ks h
  omega
theorem shares_bound {ps : List Pn} (h : ∀ p ∈ ps, 1 ≤ p.s ∧ p.s ≤ 3) (hl : 1 ≤ ps.length ∧ ps.length ≤ 3) : 1 ≤ shares ps ∧ shares ps ≤ 9 := by
  have key : ∀ l : List Pn, (∀ p ∈ l, 1 ≤ p.s ∧ p.s ≤ 3) → (l.length : Int) ≤ shares l ∧ shares l ≤ 3 * l.length := by
    intro l
    induction l with
    | nil =>
      intro _
      exact ⟨Int.le_refl 0, Int.le_refl 0⟩
    | cons p l ih =>
      intro hk
      have h1 := ih fun x hx => hk x (List.mem_cons_of_mem _ hx)
      have h2 := hk p (List.mem_cons_self ..)
      have e : shares (p :: l) = p.s + shares l := by simp [shares]
      rw [e, List.length_cons]
      omega
  have := key ps h
  omega
end Z
namespace Z
open PySem PySem.Spec PyProof.Rows L2 ZE
theorem pe_fldK {X : Cx} {K : PySem.W.Frag} {e : Expr} {f : Str} {ta : TE} {pos : Pos} (hK : X.K = K) (he : PE X e ta) (hb : attributeBase e f X.env (eval e X.env) = eval e X.env) : PE X (.Attribute e f pos) (tFld K ta f) := by
  subst hK
  exact pe_fld he hb
end Z
namespace Z
open PySem PySem.Spec PyProof.Rows L2 ZE
section
variable {K : PySem.W.Frag} {g : TG} {te : TE} {ta : TA} {vs : List Nat} {σ : L2.St} {H : Hp} {Q : VK}
theorem lcR (n : Nat) (ht : ∀ R : List V → Hp → Prop, R [.int (n : Int)] H → ta σ H R) (hn : n ≤ 90000) (m : Addr → Prop) (I : Hp → Prop) (R : Nat → V → Hp → Prop)
    (hm : ∀ b, m b → H b ≠ none) (hI : I H) (hIu : ∀ H' D o, H D = none → Gr m H H' → I H' → I (upd H' D o)) (hR : ∀ i y H' H'', R i y H' → Gr any H' H'' → R i y H'')
    (hs : ∀ (i : Nat) (H' : Hp) (Q' : VK), i < n → Gr m H H' → I H' → (∀ y H3, Gr m H' H3 → I H3 → R i y H3 → Q' y H3) → g (.int (i : Int)) (wipe σ vs) H' fun σ2 H2 => wipe σ2 vs = wipe σ vs ∧ te σ2 H2 Q')
    (k : ∀ D ys H', H D = none → Gr m H H' → I H' → H' D = some (.lst ys) → ys.length = n → (∀ i y, ys[i]? = some y → R i y H') → Q (.ref D) H') : tLc (iRng1 ta) g tYes te vs σ H Q :=
  ht _ ⟨(n : Int), rfl, by omega, by omega, lc_all (H := H) (walk_range (lo := 0) (n := n)) m I R hn (fun _ _ => trivial) hm hI hIu hR (fun i x H' H'' Q' hi g1 g2 ⟨e, hx⟩ q => by
    subst e
    have e0 : (0 : Int) + (i : Int) = (i : Int) := Int.zero_add _
    rw [hx]
    show g (.int (0 + (i : Int))) _ _ _
    rw [e0]
    exact hs i _ Q' hi g1 g2 q) k⟩
theorem lcRf (n : Nat) (ht : ∀ R : List V → Hp → Prop, R [.int (n : Int)] H → ta σ H R) (hn : n ≤ 90000) (zs : List V) (hz : zs.length = n)
    (hs : ∀ (i : Nat) (z : V) (H' : Hp) (Q' : VK), zs[i]? = some z → Ex H H' → (∀ H3, Ex H' H3 → Q' z H3) → g (.int (i : Int)) (wipe σ vs) H' fun σ2 H2 => wipe σ2 vs = wipe σ vs ∧ te σ2 H2 Q')
    (k : ∀ D H', H D = none → Ex H H' → H' D = some (.lst zs) → Q (.ref D) H') : tLc (iRng1 ta) g tYes te vs σ H Q := by
  refine lcR n ht hn nob (fun _ => True) (fun i y _ => zs[i]? = some y) (fun _ q => q.elim) trivial (fun _ _ _ _ _ _ => trivial) (fun _ _ _ _ q _ => q) (fun i H' Q' hi e _ q => ?_) fun D ys H' hD e _ h1 h2 h3 => ?_
  · exact hs i zs[i] H' Q' (List.getElem?_eq_getElem (by omega)) e fun H3 e3 => q _ H3 e3 trivial (List.getElem?_eq_getElem (by omega))
  · rw [ext_of (h2.trans hz.symm) h3] at h1
    exact k D H' hD e h1
end
end Z

/-! v in o, o == p, o != p: o and p instances of one own class with __contains__ and __eq__. -/
namespace Z
open PySem PySem.Spec PyProof.Rows L2
section
variable {X : Cx} {C : Addr} {k : Nat} {sp : Sp}
theorem run_own {f : Addr} {fd : FuncData} {ps : List Str} {pins : List (Addr × Obj)} {s : Shared} {σ : L2.St} {H : Hp} {us : List Value} {vs : List V} {Q : VK} (F : FnOk X.prog X.w X.K X.mg X.base (L2N.CX X.prog X.w) k f fd ps sp) (hb : Binds X.K fd ps []) (hr : Room k X.A)
    (I : L2.Inv X pins σ H s) (r : Vals vs us) (hl : us.length = ps.length) (q : sp vs H Q E0) : wpAny (model X.prog X.w) X.A (call (.ref f) us) (EP X pins σ Q) X.xe s := by
  have hb2 := hb s us I.kIn (by rw [List.append_nil]; exact hl)
  rw [List.append_nil] at hb2
  refine wpAny_call (codeAny_mono (F.run X.A X.stack s H ⟨us, []⟩ us vs _ E0 hr I.env0 hb2 r q) fun r s' hq => ?_)
  cases r with
  | error er =>
    obtain ⟨_, _, _, _, _, _, _, _, _, _, _, _, z⟩ := (show L2N.CX X.prog X.w X.stack H s E0 er s' from hq)
    exact z.elim
  | ok fl =>
    cases fl with
    | ret u => exact I.after hq
    | next => exact False.elim hq
    | brk => exact False.elim hq
    | cont => exact False.elim hq
theorem run_own1 {E : Value → Shared → Prop} {f : Addr} {fd : FuncData} {ps : List Str} {pins : List (Addr × Obj)} {s : Shared} {σ : L2.St} {H : Hp} {us : List Value} {vs : List V} {Q : VK} (F : FnOk X.prog X.w X.K X.mg X.base (L2N.CX X.prog X.w) k f fd ps sp) (hb : Binds X.K fd ps []) (hr : Room (k + 1) X.A)
    (I : L2.Inv X pins σ H s) (r : Vals vs us) (hl : us.length = ps.length) (q : sp vs H Q E0) : wpAny (model X.prog X.w) X.A.in1 (call (.ref f) us) (EP X pins σ Q) E s := by
  have hb2 := hb s us I.kIn (by rw [List.append_nil]; exact hl)
  rw [List.append_nil] at hb2
  refine wpAny_call (codeAny_mono (F.run X.A.in1 X.stack s H ⟨us, []⟩ us vs _ E0 hr.in1 I.env0.in1 hb2 r q) fun r s' hq => ?_)
  cases r with
  | error er =>
    obtain ⟨_, _, _, _, _, _, _, _, _, _, _, _, z⟩ := (show L2N.CX X.prog X.w X.stack H s E0 er s' from hq)
    exact z.elim
  | ok fl =>
    cases fl with
    | ret u => exact I.after hq
    | next => exact False.elim hq
    | brk => exact False.elim hq
    | cont => exact False.elim hq
def rInO (C : Addr) (sp : Sp) (neg : Bool) : R2 := fun x y H Q => ∃ a dx fs, y = .ref a ∧ H a = some (.ins C dx fs) ∧ sp [.ref a, x] H (fun v H' => ∃ b, v = .bl b ∧ Q (.bl (b != neg)) H') E0
theorem op_inO (c : Mtd X.prog X.w X.K X.mg X.base k C "__contains__" ["self", "value"] sp) {j : Nat} (hr : Room j X.A) (hj : k ≤ j) : OpR X (compareOp .In) (rInO C sp false) := by
  intro pins s σ H x y v u Q I rx ry h
  obtain ⟨a, dx, fs, rfl, ea, q⟩ := h
  obtain ⟨f, fd, hc, hm, hb, F⟩ := c.ex
  cases ry
  obtain ⟨mA, O, _⟩ := ins_get I.hok ea
  obtain ⟨od, J, _⟩ := O.look
  obtain ⟨m, fr⟩ := I.fr
  refine PySem.W.in_K fr I.ok.mod.kin J hm.at_ hm.fn ?_
  refine wpAny_mono (run_own (vs := [.ref a, x]) F hb (hr.mono hj) I (.cons rfl (.cons rx .nil)) rfl q) (fun w s' hw => ?_) fun _ _ z => z
  obtain ⟨v2, H', I2, r2, b, rfl, q2⟩ := hw
  cases r2
  refine wpAny_truthy_bool ?_
  refine ⟨.bl b, H', I2, rfl, ?_⟩
  have : (b != false) = b := by cases b <;> rfl
  rwa [this] at q2
theorem op_notInO (c : Mtd X.prog X.w X.K X.mg X.base k C "__contains__" ["self", "value"] sp) {j : Nat} (hr : Room j X.A) (hj : k ≤ j) : OpR X (compareOp .NotIn) (rInO C sp true) := by
  intro pins s σ H x y v u Q I rx ry h
  obtain ⟨a, dx, fs, rfl, ea, q⟩ := h
  obtain ⟨f, fd, hc, hm, hb, F⟩ := c.ex
  cases ry
  obtain ⟨mA, O, _⟩ := ins_get I.hok ea
  obtain ⟨od, J, _⟩ := O.look
  obtain ⟨m, fr⟩ := I.fr
  refine PySem.W.notIn_K fr I.ok.mod.kin J hm.at_ hm.fn ?_
  refine wpAny_mono (run_own (vs := [.ref a, x]) F hb (hr.mono hj) I (.cons rfl (.cons rx .nil)) rfl q) (fun w s' hw => ?_) fun _ _ z => z
  obtain ⟨v2, H', I2, r2, b, rfl, q2⟩ := hw
  cases r2
  refine wpAny_truthy_bool ?_
  refine ⟨.bl (!b), H', I2, rfl, ?_⟩
  have : (b != true) = !b := by cases b <;> rfl
  rwa [this] at q2
def rEqO (C : Addr) (sp : Sp) (neg : Bool) : R2 := fun x y H Q => ∃ a dx fs b dy gs, x = .ref a ∧ y = .ref b ∧ H a = some (.ins C dx fs) ∧ H b = some (.ins C dy gs) ∧ sp [.ref a, .ref b] H (fun v H' => ∃ c, v = .bl c ∧ Q (.bl (c != neg)) H') E0
theorem op_eqO (c : Mtd X.prog X.w X.K X.mg X.base k C "__eq__" ["self", "other"] sp) {j : Nat} (hr : Room j X.A) (hj : k ≤ j) : OpR X (compareOp .Eq) (rEqO C sp false) := by
  intro pins s σ H x y v u Q I rx ry h
  obtain ⟨a, dx, fs, b, dy, gs, rfl, rfl, ea, eb, q⟩ := h
  obtain ⟨f, fd, hc, hm, hb, F⟩ := c.ex
  cases rx
  cases ry
  obtain ⟨mA, O, _⟩ := ins_get I.hok ea
  obtain ⟨od, J, _⟩ := O.look
  obtain ⟨mB, O2, _⟩ := ins_get I.hok eb
  obtain ⟨od2, J2, _⟩ := O2.look
  obtain ⟨m, fr⟩ := I.fr
  show wpAny _ _ (richCompare .Eq (.ref a) (.ref b)) _ _ s
  refine PySem.W.cmp_K hr.units0 fr I.ok.mod.kin J J2.type (by unfold PySem.W.notFirst; simp) hm.at_ hm.fn ?_
  refine wpAny_mono (run_own (vs := [.ref a, .ref b]) F hb (hr.mono hj) I (.cons rfl (.cons rfl .nil)) rfl q) (fun w s' hw => ?_) fun _ _ z => z
  obtain ⟨v2, H', I2, r2, c, rfl, q2⟩ := hw
  cases r2
  refine ⟨.bl c, H', I2, rfl, ?_⟩
  have : (c != false) = c := by cases c <;> rfl
  rwa [this] at q2
/-- the class takes != from object -/
structure NeC (K : PySem.W.Frag) (C : Addr) : Prop where
  ne : PySem.W.findIn K (.ref C) "__ne__" = some (some (.builtin "object.__ne__"))
  ob : PySem.W.mroIn K C (.type "object") = some true
theorem ifBound_objNe {M : Model} {A : Around} {E : Value → Shared → Prop} {s : Shared} {K : PySem.W.Frag} {x C : Addr} {ox : Obj} {od : Option Obj} {args : List Value} {Q : Option Value → Shared → Prop} (X : K.In s.heap) (J : PySem.W.InstAt s.heap x ox C od) (n : NeC K C)
    (h : wpAny M A (call (.builtin "object.__ne__") (.ref x :: args)) (fun v => Q (some v)) E s) : wpAny M A (callSpecialIfBound? (.ref x) "__ne__" args) Q E s := by
  unfold callSpecialIfBound?
  refine wpAny_holding (wpAny_bind ?_)
  unfold bindSpecialIfBound?
  refine wpAny_bind ?_
  unfold specialOf
  refine wpAny_bind (J.type.here ?_)
  refine (PySem.W.looks_findIn X n.ne).here ?_
  refine wpAny_bind (wpAny_askSetting (wpAny_ite ?_))
  have hbnd := (CmpFacts.ne PySem.F.cmp_object).bind (.ref x)
  split
  · refine wpAny_bind ?_
    rw [hbnd]
    refine wpAny_pure (wpAny_pure ?_)
    refine wpAny_bind (wpAny_mono h (fun v s' q => wpAny_pure q) fun _ _ z => z)
  · refine wpAny_tryCatch (wpAny_bind ?_)
    rw [hbnd]
    refine wpAny_pure (wpAny_pure ?_)
    refine wpAny_bind (wpAny_mono h (fun v s' q => wpAny_pure q) fun _ _ z => z)
theorem op_neO (c : Mtd X.prog X.w X.K X.mg X.base k C "__eq__" ["self", "other"] sp) (n : NeC X.K C) {j : Nat} (hr : Room j X.A) (hj : k + 1 ≤ j) : OpR X (compareOp .NotEq) (rEqO C sp true) := by
  intro pins s σ H x y v u Q I rx ry h
  obtain ⟨a, dx, fs, b, dy, gs, rfl, rfl, ea, eb, q⟩ := h
  obtain ⟨f, fd, hc, hm, hb, F⟩ := c.ex
  cases rx
  cases ry
  obtain ⟨mA, O, _⟩ := ins_get I.hok ea
  obtain ⟨od, J, _⟩ := O.look
  obtain ⟨mB, O2, _⟩ := ins_get I.hok eb
  obtain ⟨od2, J2, _⟩ := O2.look
  show wpAny _ _ (richCompare .NotEq (.ref a) (.ref b)) _ _ s
  rw [richCompare.eq_1]
  refine wpAny_holding (wpAny_bind (wpAny_cRoomFor hr.units0 ?_))
  refine wpAny_bind (J.type.here ?_)
  refine wpAny_bind (J2.type.here ?_)
  rw [if_neg (by simp)]
  refine wpAny_bind (wpAny_pure ?_)
  show wpAny _ _ (tryCompare (.ref a) "__ne__" (.ref b) >>= _) _ _ s
  refine wpAny_bind ?_
  rw [tryCompare.eq_1]
  refine wpAny_bind (ifBound_objNe I.kIn J n ?_)
  refine wpAny_call (codeAny_call_builtin (CmpFacts.ne PySem.F.cmp_object).plain PySem.F.cmpEntry_ne ?_)
  refine PySem.W.check_slot PySem.F.cmpKind_ne PySem.F.cmpSplit_ne ((J.type).andThen (PySem.W.looks_mroIn I.kIn n.ob)) (PySem.F.cmpArgs_ne _ _) ?_
  unfold Builtin.«object.__ne__»
  refine wpAny_bind (wpAny_of_eq (a := (.ref a, [.ref b])) (by rfl) ?_)
  have hr1 : Room (k + 1) X.A := hr.mono hj
  refine wpAny_bind (wpAny_cRoomFor hr1.in1.units0 ?_)
  refine wpAny_bind (PySem.W.ifBound_K I.kIn J hm.at_ hm.fn ?_)
  refine wpAny_mono (run_own1 (vs := [.ref a, .ref b]) F hb hr1 I (.cons rfl (.cons rfl .nil)) rfl q) (fun w s' hw => ?_) fun _ _ z => z
  obtain ⟨v2, H', I2, r2, c, rfl, q2⟩ := hw
  cases r2
  refine wpAny_bind (wpAny_truthy_bool ?_)
  refine wpAny_pure ?_
  refine wpAny_pure ?_
  refine wpAny_pure ?_
  refine ⟨.bl (!c), H', I2, rfl, ?_⟩
  have : (c != true) = !c := by cases c <;> rfl
  rwa [this] at q2
end
end Z

/-! min(l, default=d), l a list of whole numbers. -/
namespace Z
open PySem PySem.Spec PyProof.Rows L2
section
variable {prog : Program} {w : World} {A : Around} {R : Result → Shared → Prop} {I : Addr} {fp wr : List Addr} {n : Nat} {P : Nat → Value → Prop} {St : Nat → Heap → Prop}
theorem minD_loop (W : Walks prog w A.in1 I fp wr n P St) (bt : Nat → Nat → Bool) (C : CmpOf prog w A.in1 CmpOp.Lt P bt) (S : Addr) (hS : ¬ S ∈ fp) (d : Value) :
    ∀ (k j : Nat) (s : Shared) (vb : Value) (c : Nat), n - (j + 1) = k → j + 1 ≤ n → St (j + 1) s.heap → P (argBest bt j) vb → s.heap.get? S = some { cls := .type "list", data := .seq #[vb, vb] c } →
      (∀ (v : Value) (h' : Heap) (tk : Nat), P (argBest bt (n - 1)) v → (∀ (b : Addr) (o : Obj), ¬ b ∈ wr → b ≠ S → s.heap.get? b = some o → h'.get? b = some o) → R (.ok (.ret v)) { s with heap := h', toks := tk }) →
      codeAny (model prog w) A (.builtin "min.loop" { pos := [.ref I, .none, .ref S], kw := [("default", d)] }) R s := by
  intro k
  have hSw : ¬ S ∈ wr := fun q => hS (W.sub S q)
  induction k with
  | zero =>
    intro j s vb c hk hj hst hp hs hR
    have hn : n = j + 1 := by omega
    refine codeAny_builtin F.entry_min_loop ?_
    rw [Around.under_plainId F.plain_min_loop]
    refine wpAny_bind (wpAny_seqItems hs rfl ?_)
    refine wpAny_bind (wpAny_tryCatch ?_)
    subst hn
    refine W.done s _ _ hst fun h' tk hk' => ?_
    have hs' := hk' S _ hSw hs
    refine wpAny_bind (wpAny_updateSeq hs' rfl ?_)
    refine wpAny_bind (wpAny_letGo ?_)
    refine wpAny_pure ?_
    exact hR vb _ tk hp fun b o hb hbS q => by
      exact (Heap.get?_update_other _ _ (Ne.symm hbS)).trans (hk' b o hb q)
  | succ k ih =>
    intro j s vb c hk hj hst hp hs hR
    refine codeAny_builtin F.entry_min_loop ?_
    rw [Around.under_plainId F.plain_min_loop]
    refine wpAny_bind (wpAny_seqItems hs rfl ?_)
    refine wpAny_bind (wpAny_tryCatch ?_)
    refine W.item (j + 1) s _ _ (by omega) hst fun v h' tk hv hst' hk' => ?_
    have hs' := hk' S _ hSw hs
    refine wpAny_bind (wpAny_pure ?_)
    refine wpAny_bind (wpAny_tryCatch ?_)
    refine wpAny_holding (wpAny_bind (C (j + 1) (argBest bt j) v vb _ _ _ hv hp ?_))
    refine wpAny_bind (wpAny_holding (wpAny_truthy_bool ?_))
    refine wpAny_bind (wpAny_letGo (wpAny_pure ?_))
    have en : argBest bt (j + 1) = if bt (j + 1) (argBest bt j) = true then j + 1 else argBest bt j := argBest.eq_2 bt j
    cases hb : bt (j + 1) (argBest bt j) with
    | true =>
      rw [if_pos rfl]
      rw [hb, if_pos rfl] at en
      refine wpAny_bind (wpAny_updateSeq hs' rfl ?_)
      refine wpAny_bind (wpAny_letGo ?_)
      refine wpAny_pure ⟨plainId_quiet F.plain_min_loop _, ?_⟩
      refine ih (j + 1) _ v c (by omega) (by omega) (W.frame _ _ _ hst' fun b hb o q => ?_) (by rw [en]; exact hv) ?_ fun u h2 tk2 hu hk2 => ?_
      · refine (Heap.get?_update_other _ _ (fun e => hS (by rw [e]; exact hb))).trans q
      · exact Heap.get?_update_self _ hs' rfl
      · exact hR u h2 tk2 hu fun b o hb1 hb2 q => hk2 b o hb1 hb2 (by
          exact (Heap.get?_update_other _ _ (Ne.symm hb2)).trans (hk' b o hb1 q))
    | false =>
      rw [if_neg (by decide)]
      rw [hb, if_neg (by decide)] at en
      refine wpAny_bind (wpAny_letGo ?_)
      refine wpAny_pure ⟨plainId_quiet F.plain_min_loop _, ?_⟩
      refine ih (j + 1) _ vb c (by omega) (by omega) hst' (by rw [en]; exact hp) hs' fun u h2 tk2 hu hk2 => ?_
      exact hR u h2 tk2 hu fun b o hb1 hb2 q => hk2 b o hb1 hb2 (hk' b o hb1 q)
theorem minD_nil (W : Walks prog w A.in1 I fp wr 0 P St) (S : Addr) (hS : ¬ S ∈ fp) (d : Value) {s : Shared} {c : Nat} (hst : St 0 s.heap) (hs : s.heap.get? S = some { cls := .type "list", data := .seq #[] c })
    (hR : ∀ (h' : Heap) (tk : Nat), (∀ (b : Addr) (o : Obj), ¬ b ∈ wr → s.heap.get? b = some o → h'.get? b = some o) → R (.ok (.ret d)) { s with heap := h', toks := tk }) :
    codeAny (model prog w) A (.builtin "min.loop" { pos := [.ref I, .none, .ref S], kw := [("default", d)] }) R s := by
  refine codeAny_builtin F.entry_min_loop ?_
  rw [Around.under_plainId F.plain_min_loop]
  refine wpAny_bind (wpAny_seqItems hs rfl ?_)
  refine wpAny_bind (wpAny_tryCatch ?_)
  refine W.done s _ _ hst fun h' tk hk' => ?_
  refine wpAny_bind (wpAny_rule ?_)
  exact wpAny_pure (hR h' tk hk')
theorem minD_first (W : Walks prog w A.in1 I fp wr n P St) (bt : Nat → Nat → Bool) (C : CmpOf prog w A.in1 CmpOp.Lt P bt) (S : Addr) (hS : ¬ S ∈ fp) (d : Value) (hn : 0 < n) {s : Shared} {c : Nat} (hst : St 0 s.heap) (hs : s.heap.get? S = some { cls := .type "list", data := .seq #[] c })
    (hR : ∀ (v : Value) (h' : Heap) (tk : Nat), P (argBest bt (n - 1)) v → (∀ (b : Addr) (o : Obj), ¬ b ∈ wr → b ≠ S → s.heap.get? b = some o → h'.get? b = some o) → R (.ok (.ret v)) { s with heap := h', toks := tk }) :
    codeAny (model prog w) A (.builtin "min.loop" { pos := [.ref I, .none, .ref S], kw := [("default", d)] }) R s := by
  have hSw : ¬ S ∈ wr := fun q => hS (W.sub S q)
  refine codeAny_builtin F.entry_min_loop ?_
  rw [Around.under_plainId F.plain_min_loop]
  refine wpAny_bind (wpAny_seqItems hs rfl ?_)
  refine wpAny_bind (wpAny_tryCatch ?_)
  refine W.item 0 s _ _ hn hst fun v h' tk hv hst' hk' => ?_
  have hs' := hk' S _ hSw hs
  refine wpAny_bind (wpAny_pure ?_)
  refine wpAny_bind (wpAny_updateSeq hs' rfl ?_)
  refine wpAny_pure ⟨plainId_quiet F.plain_min_loop _, ?_⟩
  refine minD_loop W bt C S hS d _ 0 _ v _ rfl (by omega) (W.frame _ _ _ hst' fun b hb o q => (Heap.get?_update_other _ _ (fun e => hS (by rw [e]; exact hb))).trans q) hv (by exact Heap.get?_update_self (Obj.mapSeq fun _ => #[v, v]) hs' rfl) fun u h2 tk2 hu hk2 => ?_
  exact hR u h2 tk2 hu fun b o hb1 hb2 q => hk2 b o hb1 hb2 ((Heap.get?_update_other _ _ (Ne.symm hb2)).trans (hk' b o hb1 q))
end
section
variable {prog : Program} {w : World} {A : Around} {E : Value → Shared → Prop} {s : Shared} {l : Addr}
theorem args_minD (a v : Value) : argsOk "min" { pos := [a], kw := [(Str.ofString "default", v)] } := kmk_min_key a v
theorem minD_call {xs : Array (Int × Tok)} {d : Value} {Q : Value → Shared → Prop} (hh : A.handled = none) (hl : s.heap.IsList l (intItems xs))
    (h0 : xs.size = 0 → ∀ (h' : Heap) (tk : Nat), (∀ (b : Addr) (o : Obj), s.heap.get? b = some o → h'.get? b = some o) → Q d { s with heap := h', toks := tk })
    (h1 : 0 < xs.size → ∀ (v : Value) (h' : Heap) (tk : Nat), (intItems xs)[argBest (fun i j => decide (numAt xs i < numAt xs j)) (xs.size - 1)]? = some v → (∀ (b : Addr) (o : Obj), s.heap.get? b = some o → h'.get? b = some o) → Q v { s with heap := h', toks := tk }) :
    wpAny (model prog w) A (call (.builtin "min") [.ref l] [("default", d)]) Q E s := by
  refine kmk_tree F.kind_min F.plain_min F.entry_min (args_minD _ _) ?_
  refine wpAny_bind (wpAny_of_eq (a := [none, some d]) (by rfl) ?_)
  refine wpAny_bind (wpAny_pure ?_)
  refine wpAny_bind (iter_intList hl fun s2 e2 ⟨i1, i2⟩ _ hne => ?_)
  refine wpAny_bind (wpAny_newList ?_)
  refine wpAny_pure ⟨plainId_quiet F.plain_min_loop _, ?_⟩
  have sz : s2.heap.objs.size = s.heap.objs.size + 1 := by rw [e2]; exact Heap.size_push ..
  have W := Walks.list (prog := prog) (w := w) (A := A.in1) (by rw [Around.in1_handled]; exact hh) s.heap.objs.size l hne (intItems xs)
  have hlt : l < s.heap.objs.size := by
    obtain ⟨o, ho, _⟩ := hl
    exact Heap.lt_size ho
  have hSf : ¬ s2.heap.objs.size ∈ [s.heap.objs.size, l] := by
    intro q
    have q : s2.heap.objs.size = s.heap.objs.size ∨ s2.heap.objs.size = l := by simpa using q
    rcases q with q | q
    · omega
    · rw [← q] at hlt
      exact absurd (show s2.heap.objs.size < s.heap.objs.size from hlt) (by omega)
  have keep : ∀ (b : Addr) (o : Obj), s2.heap.get? b = some o → (s2.heap.push { cls := .type "list", data := .seq #[] }).get? b = some o := fun b o q => Heap.get?_push_of_some _ q
  have st0 : (s2.heap.push { cls := .type "list", data := .seq #[] }).IsListIter s.heap.objs.size l (0 : Nat) ∧ (s2.heap.push { cls := .type "list", data := .seq #[] }).IsList l (intItems xs) :=
    W.frame 0 s2.heap _ ⟨i1, i2⟩ fun b _ o q => keep b o q
  have hS0 : (s2.heap.push { cls := .type "list", data := .seq #[] }).get? s2.heap.objs.size = some { cls := .type "list", data := .seq #[] } := Heap.get?_push_size _ rfl
  have old : ∀ (b : Addr) (o : Obj), s.heap.get? b = some o → s2.heap.get? b = some o ∧ b ≠ s.heap.objs.size ∧ b ≠ s2.heap.objs.size := fun b o q => by
    have := Heap.lt_size q
    refine ⟨by rw [e2]; exact Heap.get?_push_of_some _ q, fun e => absurd this (by rw [e]; exact Nat.lt_irrefl _), fun e => absurd this (by rw [e, sz]; exact Nat.not_lt.mpr (Nat.le_succ _))⟩
  have hz : (intItems xs).size = xs.size := by simp [intItems]
  by_cases hx : xs.size = 0
  · have W0 : Walks prog w A.in1 s.heap.objs.size [s.heap.objs.size, l] [s.heap.objs.size] 0 (fun i v => (intItems xs)[i]? = some v) (fun i h => h.IsListIter s.heap.objs.size l i ∧ h.IsList l (intItems xs)) := by
      rw [hz, hx] at W
      exact W
    refine minD_nil W0 s2.heap.objs.size hSf d st0 hS0 fun h' tk hk => ?_
    have hs : ({ s2 with heap := h', toks := tk } : Shared) = { s with heap := h', toks := tk } := by rw [e2]
    show Q d _
    rw [show _ = ({ s2 with heap := h', toks := tk } : Shared) from rfl, hs]
    refine h0 hx h' tk fun b o q => ?_
    obtain ⟨o1, o2, o3⟩ := old b o q
    exact hk b o (by simpa using o2) (keep b o o1)
  · refine minD_first W (fun i j => decide (numAt xs i < numAt xs j)) (CmpOf.ints_lt (numAt xs) fun i v q => intItems_at q) s2.heap.objs.size hSf d (by rw [hz]; omega) st0 hS0 fun v h' tk hv hk => ?_
    have hs : ({ s2 with heap := h', toks := tk } : Shared) = { s with heap := h', toks := tk } := by rw [e2]
    show Q v _
    rw [show _ = ({ s2 with heap := h', toks := tk } : Shared) from rfl, hs]
    rw [hz] at hv
    refine h1 (by omega) v h' tk hv fun b o q => ?_
    obtain ⟨o1, o2, o3⟩ := old b o q
    exact hk b o (by simpa using o2) o3 (keep b o o1)
end
section
variable {X : Cx}
def rMinD (K : PySem.W.Frag) : List V → List V → Hp → VK → Prop := fun vs zs H Q => ∃ a ns d, vs = [.ref a] ∧ zs = [d] ∧ SqL K H a (ns.map V.int) ∧ (ns = [] → Q d H) ∧ ∀ m, m ∈ ns → (∀ y, y ∈ ns → m ≤ y) → Q (.int m) H
theorem cr_minD (hc : X.calm = true) : CallRK X (.builtin "min") ["default"] (rMinD X.K) := by
  intro pins s σ H xs zs us ws Q I r rz h
  obtain ⟨a, ns, d, rfl, rfl, hs, h0, h1⟩ := h
  cases r with
  | cons r rr =>
    cases rr
    cases r
    cases rz with
    | cons rd rr =>
      cases rr
      rename_i u
      obtain ⟨its, v1, v2, v3⟩ := I.list hs
      have hi := v1.ints
      have hl := v2.isList
      obtain ⟨ws, hws⟩ := AllInts.items hi.allInts
      have en : ws.toList.map (·.1) = ns := by
        have e := nums_intItems ws
        rw [← hws] at e
        rw [← e]
        exact hi.numsOf
      rw [hws] at hl
      have hsz : ws.size = ns.length := by
        rw [← en, List.length_map, Array.length_toList]
      refine minD_call (I.ok.hd hc) hl (fun hx h' tk hk => ?_) fun hx v h' tk hv hk => ?_
      · exact ⟨d, H, I.kept hk, rd, h0 (List.length_eq_zero_iff.mp (by omega))⟩
      · obtain ⟨t, rfl⟩ := intItems_at hv
        obtain ⟨b1, b2⟩ := argBest_lt (numAt ws) (ws.size - 1)
        generalize hj : argBest (fun i j => decide (numAt ws i < numAt ws j)) (ws.size - 1) = j at b1 b2 hv
        refine ⟨.int (numAt ws j), H, I.kept hk, ⟨t, rfl⟩, h1 _ ?_ fun y hy => ?_⟩
        · rw [numAt_eq, en]
          exact getD_mem (by omega)
        · obtain ⟨i, hi1, rfl⟩ := mem_getD hy
          have := b2 i (by omega)
          rwa [numAt_eq ws i, en] at this
end
end Z

/-! xs[f::d], xs a list. -/
namespace Z
open PySem PySem.Spec PyProof.Rows L2 HT
def stepN (n f d : Nat) : List Nat := (List.range ((n - f + d - 1) / d)).map fun k => f + d * k
def stepV {α : Type} (xs : List α) (f d : Nat) : List α := (stepN xs.length f d).filterMap fun i => xs[i]?
theorem step_pick (its : List Value) {f d : Nat} (hf : f ≤ its.length) (hd : 0 < d) : slicePick its.toArray (some (f : Int)) none (some (d : Int)) = (stepV its f d).toArray := by
  unfold slicePick stepV
  congr 1
  have e1 : sliceBounds (some (f : Int)) none (some (d : Int)) its.toArray.size = ((f : Int), (its.length : Int), (d : Int)) := by
    unfold sliceBounds
    simp only [Option.getD_some, List.size_toArray]
    rw [if_neg (show ¬ ((f : Int) < 0) by omega), if_pos (show (d : Int) > 0 by omega), if_pos (show (d : Int) > 0 by omega)]
    congr 1
    omega
  rw [e1]
  have e2 : sliceRange (f : Int) (its.length : Int) (d : Int) = stepN its.length f d := by
    unfold sliceRange stepN
    simp only []
    rw [if_pos (show (d : Int) > 0 by omega)]
    have e3 : ((if (f : Int) < (its.length : Int) then ((its.length : Int) - f + d - 1) / d else 0) : Int).toNat = (its.length - f + d - 1) / d := by
      split
      · have e : ((its.length : Int) - f + d - 1) = ((its.length - f + d - 1 : Nat) : Int) := by omega
        rw [e, ← Int.natCast_ediv, Int.toNat_natCast]
      · have e : its.length - f + d - 1 = d - 1 := by omega
        rw [e, Nat.div_eq_of_lt (by omega)]
        rfl
    rw [e3]
    refine List.map_congr_left fun k _ => ?_
    have e : (f : Int) + d * k = ((f + d * k : Nat) : Int) := by simp
    rw [e, Int.toNat_natCast]
  show List.filterMap (fun x => its.toArray[x]?) (sliceRange (f : Int) (its.length : Int) (d : Int)) = _
  rw [e2]
  congr 1
  funext x
  simp
theorem stepV_len {α : Type} (xs : List α) (f d : Nat) (hd : 0 < d) : (stepV xs f d).length ≤ xs.length := by
  refine Nat.le_trans (List.length_filterMap_le ..) ?_
  unfold stepN
  rw [List.length_map, List.length_range]
  rw [Nat.div_le_iff_le_mul_add_pred hd]
  have := Nat.le_mul_of_pos_left xs.length hd
  omega
section
variable {X : Cx}
def tStepL (K : PySem.W.Frag) (te : TE) (tl ts : TO) : TE := fun σ H Q => te σ H fun x H1 => tl σ H1 fun l H2 => ts σ H2 fun s H3 => ∃ a xs, ∃ f d : Nat, x = .ref a ∧ l = some (f : Int) ∧ s = some (d : Int) ∧ SqL K H3 a xs ∧ f ≤ xs.length ∧ 0 < d ∧ ∀ p, H3 p = none → Q (.ref p) (upd H3 p (.lst (stepV xs f d)))
theorem pe_stepL {e : Expr} {te : TE} {lo st : Expr} {tl ts : TO} {p2 pos : Pos} (he : PE X e te) (hl : PO X (some lo) tl) (hs : PO X (some st) ts) : PE X (.Subscript e (.Slice (some lo) none (some st) p2) pos) (tStepL X.K te tl ts) := by
  refine ⟨fun pins s σ H Q I h => ?_⟩
  refine Subscript_ (thn (he.run pins s σ H _ I h) fun v s1 ⟨x, H1, I1, r1, q1⟩ => ?_)
  refine wpAny_Slice (thn (hl.run pins s1 σ H1 _ I1 q1) fun vl s2 ⟨l, H2, I2, pl, q2⟩ => ?_)
  refine thn (po_none.run pins s2 σ H2 (fun o H3 => o = none ∧ H3 = H2) I2 ⟨rfl, rfl⟩) fun vu s3 ⟨u, H3, I3, pu, eu, e3⟩ => ?_
  subst eu e3
  refine thn (hs.run pins s3 σ H3 _ I3 q2) fun vs s4 ⟨o, H4, I4, ps, q4⟩ => ?_
  obtain ⟨a, xs, f, d, rfl, rfl, rfl, hx, hf, hd, q⟩ := q4
  cases r1
  have I5 : Inv X pins σ H4 { s4 with heap := s4.heap.push { cls := .type "slice", data := .fields #[vl, vu, vs] } } := I4.kept (t' := s4.toks) fun b ob q => Heap.get?_push_of_some _ q
  obtain ⟨its, r, ht, hz⟩ := I5.list hx
  have hlen := r.length
  show wpAny (model X.prog X.w) X.A (subscriptTail e (.Slice (some lo) none (some st) p2) (.ref a) (.ref s4.heap.objs.size)) (EP X pins σ Q) X.xe { s4 with heap := s4.heap.push { cls := .type "slice", data := .fields #[vl, vu, vs] } }
  refine tail_any (ops := [.ref a, .ref s4.heap.objs.size]) ht.isList.typeIs PySem.slot_list_getitem.lookup ?_ (by with_unfolding_all rfl)
  refine wpAny_getItem_list_slice ht.isList (Heap.IsSliceOf.new _ _ _ _) pl pu ps (by simp; omega) ?_ (by rw [List.size_toArray]; omega)
  rw [step_pick its (by omega) hd]
  have hv : Vals (stepV xs f d) (stepV its f d) := by
    unfold stepV
    rw [hlen]
    have key : ∀ ks : List Nat, Vals (ks.filterMap fun i => xs[i]?) (ks.filterMap fun i => its[i]?) := fun ks => by
      induction ks with
      | nil => exact .nil
      | cons k ks ih =>
        by_cases hk : k < xs.length
        · obtain ⟨u, hu, ru⟩ := r.get (List.getElem?_eq_getElem hk)
          rw [List.filterMap_cons_some (List.getElem?_eq_getElem hk), List.filterMap_cons_some hu]
          exact .cons ru ih
        · rw [List.filterMap_cons_none (List.getElem?_eq_none (by omega)), List.filterMap_cons_none (List.getElem?_eq_none (by omega))]
          exact ih
    exact key _
  refine ⟨.ref _, _, I5.laid (t' := s4.toks) (o := .lst (stepV xs f d)) (fun b ob q => Heap.get?_push_of_some _ q) (Nat.le_refl _) ?_, rfl, q _ (I5.hok.fresh (Nat.le_refl _))⟩
  have := stepV_len xs f d hd
  simp only [L2.ObjOk]
  exact ⟨by omega, _, _, hv, Heap.get?_push_size _ rfl⟩
end
end Z

/-! set(t), t a tuple of whole numbers; len of a set of them. -/
namespace Z
open PySem PySem.Spec PyProof.Rows L2
section
variable {X : Cx}
def rSetT (K : PySem.W.Frag) (w : World) : List V → Hp → VK → Prop := fun xs H Q => ∃ (p : Addr) (ns : List Int), xs = [.ref p] ∧ SqT K H p (ns.map V.int) ∧ ns.length ≤ 1000 ∧ ∀ a c, H a = none → c ≤ ns.length → Q (.ref a) (upd H a (SetO w a (fun j => decide (j ∈ ns)) c))
theorem cr_setT (hc : X.calm = true) : CallR X (.type "set") (rSetT X.K X.w) := by
  intro pins s σ H xs us Q I r h
  obtain ⟨p, ns, rfl, hs, hn, q⟩ := h
  cases r with
  | cons r rr =>
    cases rr
    cases r
    obtain ⟨its, v1, v2, v3⟩ := I.tuple hs
    have hi := v1.ints
    refine call_set_tupI ns (I.ok.hd hc) v2 hi (by show ns.length + 1 < scanBound; exact Nat.lt_of_le_of_lt (Nat.succ_le_succ hn) (by decide)) fun h' tk c hS hle hk => ?_
    refine ⟨.ref _, _, I.laid (t' := tk) (o := SetO X.w s.heap.objs.size (fun j => decide (j ∈ ns)) c) hk (Nat.le_refl _) (setO_new hS), rfl, q _ c (I.hok.fresh (Nat.le_refl _)) hle⟩
def rLenSet (w : World) : List V → Hp → VK → Prop := fun xs H Q => ∃ a S n, xs = [.ref a] ∧ H a = some (SetO w a S n) ∧ ∀ ks : List Int, ks.Nodup → ks.length = n → (∀ k, S k = true ↔ k ∈ ks) → Q (.int (n : Nat)) H
theorem cr_lenSet : CallR X (.builtin "len") (rLenSet X.w) := by
  intro pins s σ H xs us Q I r h
  obtain ⟨a, S, n, rfl, hs, q⟩ := h
  cases r with
  | cons r rr =>
    cases rr
    cases r
    obtain ⟨o, es, ep, t, h1, h2, h3, h4, h5, h6, h7, h8, h9, h10⟩ := setO_get I hs
    refine call_len_set h1 h2 h3 h8 (by
      have h11 : scanBound < 2 ^ 63 := by decide
      omega) ?_
    refine ⟨.int n, H, I.kept (t' := s.toks + 1 + 1) (fun _ _ q => q), ⟨_, by rw [h9]⟩, q _ h5 (by rw [List.length_map, Array.length_toList]; exact h9) h6⟩
/-- sorted(t), t a tuple of fewer than 64 whole numbers -/
def rSortT (K : PySem.W.Frag) : List V → Hp → VK → Prop := fun vs H Q => ∃ (a : Addr) (ns : List Int), vs = [.ref a] ∧ SqT K H a (ns.map V.int) ∧ ns.length < 64 ∧ ∀ (ns' : List Int) (p : Addr), ns'.Perm ns → ns'.Pairwise (· ≤ ·) → H p = none → Q (.ref p) (upd H p (.lst (ns'.map V.int)))
theorem cr_sortT : CallR X (.builtin "sorted") (rSortT X.K) := by
  intro pins s σ H xs us Q I r h
  obtain ⟨a, ns, rfl, hs, hn, q⟩ := h
  cases r with
  | cons r rr =>
    cases rr
    cases r
    obtain ⟨its, v1, v2, v3⟩ := I.tuple hs
    have hi := v1.ints
    have hlen : its.length = ns.length := by
      have := v1.length
      rw [List.length_map] at this
      exact this.symm
    have hsz : its.length ≤ sizeLine := by rw [hlen]; exact Nat.le_trans (Nat.le_of_lt hn) (by decide)
    obtain ⟨o, ho1, ho2, nn, ho3⟩ := v2
    refine Calls.call_function_entry kind_sorted plain_sorted entry_sorted (args_sorted1 _) ?_
    refine wpAny_bind (wpAny_of_eq (a := ()) (by rfl) ?_)
    refine wpAny_bind (wpAny_collect_seq a (.inr rfl) ho1 ho2 ho3 (fun h' hk => ?_) (by rw [List.size_toArray]; exact hsz))
    have I1 := I.kept (t' := s.toks) hk
    refine wpAny_bind (wpAny_newList ?_ (by simpa using hsz))
    refine wpAny_bind (wpAny_holding ?_)
    have hg : (h'.push (seqObj "list" its.toArray 0)).get? h'.objs.size = some (seqObj "list" its.toArray 0) := Heap.get?_push_size _ rfl
    refine wpAny_call_entry slot_list_sort ⟨_, hg, rfl⟩ entry_list_sort ?_ (args_list_sort _)
    refine list_sort_tree (vs := its) (by simpa using hg) hi (by rw [hlen]; exact hn) fun out ns' e1 e2 e3 => ?_
    refine ⟨_, rfl, ?_⟩
    refine wpAny_pure ⟨_, rfl, ?_⟩
    obtain ⟨e, he⟩ := sortedHeap_at (out := out) hg
    refine ⟨.ref _, _, I1.laid (t' := s.toks) (o := .lst (ns'.map V.int)) (a := h'.objs.size) (fun b u hb => ?_) (Nat.le_refl _) ?_, rfl, q ns' _ e2 e3 (I1.hok.fresh (Nat.le_refl _))⟩
    · have hb2 := Heap.lt_size hb
      refine (sortedHeap_old (fun e => ?_) ?_).trans (Heap.get?_push_of_some _ hb)
      · rw [e] at hb2
        exact Nat.lt_irrefl _ hb2
      · rw [size_push']
        exact Nat.lt_succ_of_lt hb2
    · simp only [L2.ObjOk]
      have := e2.length_eq
      refine ⟨by rw [List.length_map]; omega, out.toList, e, vals_of_ints e1, by simpa using he⟩
end
end Z

/-! Sets of numbers: sums of generators, their least ones, the least sum for each remainder. Plain Lean. -/
namespace NM
/-- n is a sum of these -/
inductive Sg (g : List Int) : Int → Prop
  | zero : Sg g 0
  | add {a s : Int} : a ∈ g → Sg g s → Sg g (a + s)
def Pos (g : List Int) : Prop := ∀ a ∈ g, 0 < a
theorem Sg.nonneg {g : List Int} (h : Pos g) {s : Int} (q : Sg g s) : 0 ≤ s := by
  induction q with
  | zero => omega
  | add ha _ ih =>
    have := h _ ha
    omega
theorem Sg.mem {g : List Int} {a : Int} (h : a ∈ g) : Sg g a := by
  have := Sg.add h .zero
  rwa [Int.add_zero] at this
theorem Sg.plus {g : List Int} {s t : Int} (h : Sg g s) (k : Sg g t) : Sg g (s + t) := by
  induction h with
  | zero => rwa [Int.zero_add]
  | add ha _ ih =>
    rw [Int.add_assoc]
    exact .add ha ih
theorem Sg.sub {g g' : List Int} (h : ∀ a ∈ g, Sg g' a) {s : Int} (q : Sg g s) : Sg g' s := by
  induction q with
  | zero => exact .zero
  | add ha _ ih => exact (h _ ha).plus ih
theorem Sg.mul {g : List Int} {s : Int} (h : Sg g s) : ∀ n : Nat, Sg g (n * s)
  | 0 => by simpa using Sg.zero
  | n + 1 => by
    have e : ((n + 1 : Nat) : Int) * s = n * s + s := by rw [Int.natCast_add, Int.add_mul]; simp
    rw [e]
    exact (h.mul n).plus h
theorem Sg.up {g g' : List Int} (h : ∀ a ∈ g, a ∈ g') {s : Int} (q : Sg g s) : Sg g' s := q.sub fun a ha => .mem (h a ha)
/-- the sums of g with one number more -/
theorem Sg.snoc {g : List Int} {a s : Int} : Sg (g ++ [a]) s ↔ ∃ (k : Nat) (t : Int), Sg g t ∧ s = t + k * a := by
  constructor
  · intro q
    induction q with
    | zero => exact ⟨0, 0, .zero, by simp⟩
    | add hb _ ih =>
      obtain ⟨k, t, h1, h2⟩ := ih
      rcases List.mem_append.mp hb with hb | hb
      · exact ⟨k, _, .add hb h1, by rw [h2, Int.add_assoc]⟩
      · rw [List.mem_singleton] at hb
        subst hb
        refine ⟨k + 1, t, h1, ?_⟩
        rw [h2, Int.natCast_add, Int.add_mul]
        omega
  · rintro ⟨k, t, h1, rfl⟩
    exact (h1.up fun b hb => List.mem_append_left _ hb).plus ((Sg.mem (by simp)).mul k)
theorem sg_nil {s : Int} : Sg [] s ↔ s = 0 := ⟨fun q => by
  cases q with
  | zero => rfl
  | add h _ => simp at h, fun h => by rw [h]; exact .zero⟩
/-- what a sum of positive numbers is made of is not greater -/
theorem Sg.small {g : List Int} (hp : Pos g) {s : Int} (q : Sg g s) : Sg (g.filter fun a => decide (a ≤ s)) s := by
  induction q with
  | zero => exact .zero
  | @add a s ha hs ih =>
    have h1 := hp a ha
    have h2 := Sg.nonneg hp hs
    refine .add (List.mem_filter.mpr ⟨ha, decide_eq_true (by omega)⟩) (ih.up fun b hb => ?_)
    obtain ⟨h3, h4⟩ := List.mem_filter.mp hb
    exact List.mem_filter.mpr ⟨h3, decide_eq_true (by have := of_decide_eq_true h4; omega)⟩
/-! ### atoms -/
def Atom (S : Int → Prop) (n : Int) : Prop := S n ∧ 0 < n ∧ ∀ a b, S a → S b → 0 < a → 0 < b → a + b ≠ n
/-- ascending, from 1 on, none a sum of lesser ones -/
structure Least (g : List Int) : Prop where
  pos : Pos g
  asc : g.Pairwise (· < ·)
  min : ∀ a ∈ g, ¬ Sg (g.filter fun b => decide (b < a)) a
theorem Least.atom {g : List Int} (h : Least g) {a : Int} : a ∈ g ↔ Atom (Sg g) a := by
  constructor
  · intro ha
    refine ⟨.mem ha, h.pos a ha, fun x y hx hy h1 h2 e => h.min a ha ?_⟩
    have f : ∀ z, Sg g z → z < a → Sg (g.filter fun b => decide (b < a)) z := fun z hz hl => (Sg.small h.pos hz).up fun b hb => by
      obtain ⟨h3, h4⟩ := List.mem_filter.mp hb
      exact List.mem_filter.mpr ⟨h3, decide_eq_true (by have := of_decide_eq_true h4; omega)⟩
    have := (f x hx (by omega)).plus (f y hy (by omega))
    rwa [e] at this
  · rintro ⟨h1, h2, h3⟩
    cases h1 with
    | zero => omega
    | @add b s hb hs =>
      by_cases h0 : s = 0
      · subst h0
        rwa [Int.add_zero]
      · have hs0 := Sg.nonneg h.pos hs
        exact (h3 b s (.mem hb) hs (h.pos b hb) (by omega) rfl).elim
theorem asc_ext : ∀ {g k : List Int}, g.Pairwise (· < ·) → k.Pairwise (· < ·) → (∀ a, a ∈ g ↔ a ∈ k) → g = k
  | [], [], _, _, _ => rfl
  | [], b :: k, _, _, h => by simpa using (h b).mpr (List.mem_cons_self ..)
  | a :: g, [], _, _, h => by simpa using (h a).mp (List.mem_cons_self ..)
  | a :: g, b :: k, h1, h2, h => by
    obtain ⟨p1, p2⟩ := List.pairwise_cons.mp h1
    obtain ⟨q1, q2⟩ := List.pairwise_cons.mp h2
    have e : a = b := by
      rcases List.mem_cons.mp ((h a).mp (List.mem_cons_self ..)) with e | e
      · exact e
      · rcases List.mem_cons.mp ((h b).mpr (List.mem_cons_self ..)) with e2 | e2
        · exact e2.symm
        · have := p1 b e2
          have := q1 a e
          omega
    subst e
    rw [asc_ext p2 q2 fun c => ?_]
    constructor
    · intro hc
      rcases List.mem_cons.mp ((h c).mp (List.mem_cons_of_mem _ hc)) with e | e
      · have := p1 c hc
        omega
      · exact e
    · intro hc
      rcases List.mem_cons.mp ((h c).mpr (List.mem_cons_of_mem _ hc)) with e | e
      · have := q1 c hc
        omega
      · exact e
/-- sets of the same sums have the same least numbers -/
theorem Least.ext {g k : List Int} (h1 : Least g) (h2 : Least k) (h : ∀ s, Sg g s ↔ Sg k s) : g = k := by
  refine asc_ext h1.asc h2.asc fun a => ?_
  rw [h1.atom, h2.atom]
  have e : Sg g = Sg k := funext fun s => propext (h s)
  rw [e]
/-- one more number behind least ones, which is no sum of them -/
theorem Least.snoc {g : List Int} {a : Int} (h : Least g) (ha : 0 < a) (hl : ∀ b ∈ g, b < a) (hn : ¬ Sg g a) : Least (g ++ [a]) where
  pos b hb := by
    rcases List.mem_append.mp hb with hb | hb
    · exact h.pos b hb
    · rw [List.mem_singleton] at hb
      omega
  asc := List.pairwise_append.mpr ⟨h.asc, List.pairwise_singleton .., fun b hb c hc => by
    rw [List.mem_singleton] at hc
    rw [hc]
    exact hl b hb⟩
  min b hb q := by
    rcases List.mem_append.mp hb with hb | hb
    · refine h.min b hb (q.up fun c hc => ?_)
      obtain ⟨h3, h4⟩ := List.mem_filter.mp hc
      have h5 := of_decide_eq_true h4
      rcases List.mem_append.mp h3 with h3 | h3
      · exact List.mem_filter.mpr ⟨h3, h4⟩
      · rw [List.mem_singleton] at h3
        have := hl b hb
        omega
    · rw [List.mem_singleton] at hb
      subst hb
      refine hn (q.up fun c hc => ?_)
      obtain ⟨h3, h4⟩ := List.mem_filter.mp hc
      have h5 := of_decide_eq_true h4
      rcases List.mem_append.mp h3 with h3 | h3
      · exact h3
      · rw [List.mem_singleton] at h3
        omega
theorem least_nil : Least [] := ⟨fun a h => by simp at h, .nil, fun a h => by simp at h⟩
theorem pos_filter {g : List Int} (h : Pos g) (p : Int → Bool) : Pos (g.filter p) := fun a ha => h a (List.mem_filter.mp ha).1
theorem Least.filter {g : List Int} (h : Least g) (p : Int → Bool) : Least (g.filter p) where
  pos := pos_filter h.pos p
  asc := h.asc.filter p
  min a ha q := h.min a (List.mem_filter.mp ha).1 (q.up fun b hb => by
    obtain ⟨h1, h2⟩ := List.mem_filter.mp hb
    exact List.mem_filter.mpr ⟨(List.mem_filter.mp h1).1, h2⟩)
/-! ### sums as bits -/
def Bits (N : Nat) (S : Int → Prop) : Prop := ∀ n : Nat, n ≤ 1000 → (N.testBit n = true ↔ S n)
theorem bits_one : Bits 1 (Sg []) := fun n _ => by
  rw [sg_nil, show (1 : Nat) = 2 ^ 0 from rfl, Nat.testBit_two_pow]
  simp
  omega
/-- the sums with up to k times d added -/
def Mul (M : Nat) (d k : Nat) (n : Int) : Prop := ∃ j : Nat, j < k ∧ ∃ m : Nat, n = m + j * d ∧ M.testBit m = true
theorem mul_one {M d : Nat} (hM : M < 2 ^ 1001) : Bits M (Mul M d 1) := fun n _ => by
  constructor
  · intro h
    exact ⟨0, by omega, n, by simp, h⟩
  · rintro ⟨j, hj, m, e, h⟩
    have : j = 0 := by omega
    subst this
    have : n = m := by simp at e; omega
    rwa [this]
theorem mul_two {M d k N : Nat} (h : Bits N (Mul M d k)) : Bits ((N ||| (N <<< (k * d))) % 2 ^ 1001) (Mul M d (k + k)) := fun n hn => by
  rw [Nat.testBit_mod_two_pow, Nat.testBit_or, Nat.testBit_shiftLeft, decide_eq_true (show n < 1001 by omega), Bool.true_and, Bool.or_eq_true, Bool.and_eq_true, decide_eq_true_eq, h n hn]
  constructor
  · rintro (⟨j, hj, m, e, q⟩ | ⟨h1, h2⟩)
    · exact ⟨j, by omega, m, e, q⟩
    · obtain ⟨j, hj, m, e, q⟩ := (h (n - k * d) (by omega)).mp h2
      refine ⟨j + k, by omega, m, ?_, q⟩
      have e2 : ((n - k * d : Nat) : Int) = (n : Int) - (k * d : Nat) := by omega
      rw [e2] at e
      have e3 : ((j + k : Nat) : Int) * d = j * d + (k * d : Nat) := by
        rw [Int.natCast_add, Int.add_mul, Int.natCast_mul]
      omega
  · rintro ⟨j, hj, m, e, q⟩
    by_cases hk : j < k
    · exact .inl ⟨j, hk, m, e, q⟩
    · have e3 : ((j : Nat) : Int) * d = ((j - k : Nat) : Int) * d + (k * d : Nat) := by
        rw [Int.natCast_mul, ← Int.add_mul]
        congr 1
        omega
      have hnn : (0 : Int) ≤ ((j - k : Nat) : Int) * d := Int.mul_nonneg (by omega) (by omega)
      refine .inr ⟨by omega, (h (n - k * d) (by omega)).mpr ⟨j - k, by omega, m, by omega, q⟩⟩
theorem mul_all {M d k : Nat} {g : List Int} (hM : Bits M (Sg g)) (hg : Pos g) (h : 1000 < k * d) : ∀ n : Nat, n ≤ 1000 → (Mul M d k n ↔ Sg (g ++ [(d : Int)]) n) := fun n hn => by
  rw [Sg.snoc]
  constructor
  · rintro ⟨j, hj, m, e, q⟩
    have h0 : (0 : Int) ≤ (j : Int) * d := Int.mul_nonneg (by omega) (by omega)
    exact ⟨j, m, (hM m (by omega)).mp q, e⟩
  · rintro ⟨j, t, h1, e⟩
    have ht := Sg.nonneg hg h1
    have h0 : (0 : Int) ≤ (j : Int) * d := Int.mul_nonneg (by omega) (by omega)
    obtain ⟨m, rfl⟩ := Int.eq_ofNat_of_zero_le ht
    refine ⟨j, ?_, m, e, (hM m (by omega)).mpr h1⟩
    refine Nat.lt_of_not_le fun hk => ?_
    have h2 : k * d ≤ j * d := Nat.mul_le_mul_right d hk
    have h3 : ((j * d : Nat) : Int) = (j : Int) * d := Int.natCast_mul ..
    omega
end NM

namespace NM
/-! ### going round: n0, n0 + a, .. by the remainders of m -/
theorem bez (m : Nat) : ∀ a : Nat, ∃ x : Int, ((m : Nat) : Int) ∣ (a : Int) * x - ((Nat.gcd a m : Nat) : Int) := by
  -- by Euclid, for all m
  have key : ∀ b a : Nat, ∃ x y : Int, (a : Int) * x + (b : Int) * y = ((Nat.gcd a b : Nat) : Int) := by
    intro b
    induction b using Nat.strongRecOn with
    | ind b ih =>
      intro a
      by_cases hb : b = 0
      · subst hb
        exact ⟨1, 0, by simp⟩
      · obtain ⟨x, y, e⟩ := ih (a % b) (Nat.mod_lt _ (by omega)) b
        refine ⟨y, x - (a / b : Nat) * y, ?_⟩
        have e1 : Nat.gcd a b = Nat.gcd b (a % b) := by rw [Nat.gcd_comm a b, Nat.gcd_rec b a, Nat.gcd_comm]
        rw [e1, ← e]
        have e2 : (a : Int) = (b : Int) * (a / b : Nat) + (a % b : Nat) := by exact_mod_cast (Nat.div_add_mod a b).symm
        have e3 : (a : Int) * y = (b : Int) * (a / b : Nat) * y + (a % b : Nat) * y := by
          rw [← Int.add_mul, ← e2]
        rw [e3, Int.mul_sub, Int.mul_assoc]
        omega
  intro a
  obtain ⟨x, y, e⟩ := key m a
  exact ⟨x, -y, by rw [← e, Int.mul_neg]; omega⟩
/-- c = m / gcd a m turns lead round once -/
structure Rnd (m a d c : Nat) : Prop where
  m0 : 0 < m
  a0 : 0 < a
  d_ : d = Nat.gcd a m
  c_ : c = m / d
section
variable {m a d c : Nat} (R : Rnd m a d c)
include R
theorem Rnd.d0 : 0 < d := by
  rw [R.d_]
  exact Nat.gcd_pos_of_pos_left _ R.a0
theorem Rnd.dm : d ∣ m := by
  rw [R.d_]
  exact Nat.gcd_dvd_right ..
theorem Rnd.da : d ∣ a := by
  rw [R.d_]
  exact Nat.gcd_dvd_left ..
theorem Rnd.cd : c * d = m := by
  rw [R.c_]
  exact Nat.div_mul_cancel R.dm
theorem Rnd.c0 : 0 < c := by
  refine Nat.pos_of_ne_zero fun h => ?_
  have := R.cd
  rw [h] at this
  have := R.m0
  omega
theorem Rnd.turn : (m : Int) ∣ (c : Int) * a := by
  obtain ⟨q, hq⟩ := R.da
  refine ⟨q, ?_⟩
  have : (c * a : Nat) = m * q := by rw [hq, ← Nat.mul_assoc, R.cd]
  exact_mod_cast this
theorem Rnd.far {t : Nat} (h : (m : Int) ∣ (t : Int) * a) : c ∣ t := by
  have h1 : m ∣ t * a := by exact_mod_cast h
  obtain ⟨q, hq⟩ := R.da
  have h2 : c * d ∣ (t * q) * d := by
    rw [R.cd, Nat.mul_assoc, Nat.mul_comm q d, ← hq]
    exact h1
  have h3 : c ∣ t * q := Nat.dvd_of_mul_dvd_mul_right R.d0 h2
  refine Nat.Coprime.dvd_of_dvd_mul_right ?_ h3
  have hc : (a / d).Coprime (m / d) := by
    have := Nat.coprime_div_gcd_div_gcd (m := a) (n := m) (by rw [← R.d_]; exact R.d0)
    rwa [← R.d_] at this
  have e1 : a / d = q := by rw [hq, Nat.mul_div_cancel_left _ R.d0]
  rw [e1, ← R.c_] at hc
  exact hc.symm
/-- two turns that lead to the same place -/
theorem Rnd.same {n : Int} {i j : Nat} (hi : i ≤ j) (hj : j < c) (h : (m : Int) ∣ (n + (i : Nat) * (a : Int)) - (n + (j : Nat) * (a : Int))) : i = j := by
  have h1 : (m : Int) ∣ ((j - i : Nat) : Int) * a := by
    have e : ((j - i : Nat) : Int) * a = -((n + (i : Nat) * (a : Int)) - (n + (j : Nat) * (a : Int))) := by
      have : ((j - i : Nat) : Int) = (j : Int) - i := by omega
      rw [this, Int.sub_mul]
      omega
    rw [e]
    exact Int.dvd_neg.mpr h
  have h3 := R.far h1
  by_cases hz : j - i = 0
  · omega
  · have := Nat.le_of_dvd (show 0 < j - i by omega) h3
    omega
/-- each place of the class is met -/
theorem Rnd.met {n i : Int} (h : (d : Int) ∣ i - n) : ∃ j : Nat, j < c ∧ (m : Int) ∣ i - (n + (j : Nat) * (a : Int)) := by
  obtain ⟨x, y, hx⟩ := bez m a
  rw [← R.d_] at hx
  obtain ⟨k, hk⟩ := h
  -- a * x = d + m * y, so a * (x * k) = i - n + m * (y * k)
  have hc : (0 : Int) < c := by have := R.c0; omega
  refine ⟨((x * k) % c).toNat, ?_, ?_⟩
  · have := Int.emod_lt_of_pos (x * k) hc
    have := Int.emod_nonneg (x * k) (show (c : Int) ≠ 0 by omega)
    omega
  · have e0 := Int.emod_nonneg (x * k) (show (c : Int) ≠ 0 by omega)
    rw [Int.toNat_of_nonneg e0]
    obtain ⟨t, ht⟩ := R.turn
    have e1 := Int.mul_ediv_add_emod (x * k) c
    have e2 : (x * k % c) * (a : Int) = x * k * a - (x * k / c) * (c * a) := by
      have : (x * k % c) = x * k - c * (x * k / c) := by omega
      rw [this, Int.sub_mul, Int.mul_comm (c : Int) (x * k / c), Int.mul_assoc (x * k / c) (c : Int) (a : Int)]
    have e3 : x * k * (a : Int) = (i - n) + m * (y * k) := by
      have : (a : Int) * x = d + m * y := by omega
      calc x * k * (a : Int) = (a * x) * k := by rw [Int.mul_comm (x * k), Int.mul_assoc]
        _ = d * k + m * y * k := by rw [this, Int.add_mul]
        _ = (i - n) + m * (y * k) := by rw [hk, Int.mul_assoc]
    refine ⟨(x * k / c) * t - y * k, ?_⟩
    rw [e2, e3, ht, Int.mul_sub]
    have : (x * k / c) * ((m : Int) * t) = m * ((x * k / c) * t) := by rw [Int.mul_left_comm]
    omega
end
/-! ### tables -/
abbrev Tab := List (Option Int)
/-- the place of n -/
abbrev pl (m : Nat) (n : Int) : Nat := (n % (m : Int)).toNat
theorem pl_lt {m : Nat} (h : 0 < m) (n : Int) : pl m n < m := by
  have := Int.emod_lt_of_pos n (show (0 : Int) < m by omega)
  have := Int.emod_nonneg n (show (m : Int) ≠ 0 by omega)
  unfold pl
  omega
theorem pl_eq {m : Nat} (h : 0 < m) {x y : Int} : pl m x = pl m y ↔ (m : Int) ∣ x - y := by
  have a1 := Int.emod_nonneg x (show (m : Int) ≠ 0 by omega)
  have a2 := Int.emod_nonneg y (show (m : Int) ≠ 0 by omega)
  constructor
  · intro e
    have : x % m = y % m := by unfold pl at e; omega
    exact Int.dvd_of_emod_eq_zero (Int.emod_eq_emod_iff_emod_sub_eq_zero.mp this)
  · intro e
    have := Int.emod_eq_emod_iff_emod_sub_eq_zero.mpr (Int.emod_eq_zero_of_dvd e)
    unfold pl
    rw [this]
/-- what stands in the table is a sum and in its place -/
def Sound (S : Int → Prop) (m : Nat) (L : Tab) : Prop := ∀ (i : Nat) (v : Int), L[i]? = some (some v) → S v ∧ pl m v = i
/-- there is something not greater in n's place -/
def Has (m : Nat) (L : Tab) (n : Int) : Prop := ∃ v, L[pl m n]? = some (some v) ∧ v ≤ n
theorem Has.le {m : Nat} {L : Tab} {n k : Int} (h : Has m L n) (e : (m : Int) ∣ k - n) (hm : 0 < m) (hl : n ≤ k) : Has m L k := by
  obtain ⟨v, h1, h2⟩ := h
  exact ⟨v, by rw [(pl_eq hm).mpr e]; exact h1, by omega⟩
/-- L' is not greater anywhere -/
def Low (L L' : Tab) : Prop := ∀ (i : Nat) (v : Int), L[i]? = some (some v) → ∃ v', L'[i]? = some (some v') ∧ v' ≤ v
theorem Low.refl (L : Tab) : Low L L := fun i v h => ⟨v, h, by omega⟩
theorem Low.trans {L L' L'' : Tab} (h : Low L L') (k : Low L' L'') : Low L L'' := fun i v e => by
  obtain ⟨v', h1, h2⟩ := h i v e
  obtain ⟨v'', h3, h4⟩ := k i v' h1
  exact ⟨v'', h3, by omega⟩
theorem Has.low {m : Nat} {L L' : Tab} {n : Int} (h : Has m L n) (k : Low L L') : Has m L' n := by
  obtain ⟨v, h1, h2⟩ := h
  obtain ⟨v', h3, h4⟩ := k _ v h1
  exact ⟨v', h3, by omega⟩
/-- one step on from place i -/
def Clo (m a : Nat) (L : Tab) (i : Nat) : Prop := ∀ v, L[i]? = some (some v) → Has m L (v + a)
/-- one turn of the inner loop -/
def turnV (m a : Nat) (L : Tab) (u : Int) : Int := match L[pl m (u + a)]? with
  | some (some k) => if k < u + a then k else u + a
  | _ => u + a
def turnL (m a : Nat) (L : Tab) (u : Int) : Tab := L.set (pl m (u + a)) (some (turnV m a L u))
structure Inn (S : Int → Prop) (m a d : Nat) (n0 : Int) (L0 : Tab) (t : Nat) (L : Tab) (u : Int) : Prop where
  len : L.length = m
  cur : (m : Int) ∣ u - (n0 + (t : Nat) * (a : Int))
  at_ : L[pl m u]? = some (some u)
  ge : n0 ≤ u
  sound : Sound S m L
  le : Low L0 L
  away : ∀ i : Nat, ¬ (d : Int) ∣ (i : Int) - n0 → L[i]? = L0[i]?
  low : ∀ (i : Nat) (v : Int), (d : Int) ∣ (i : Int) - n0 → L[i]? = some (some v) → n0 ≤ v
  st : L[pl m n0]? = some (some n0)
  chain : ∀ j : Nat, j < t → ∃ v v', L[pl m (n0 + (j : Nat) * (a : Int))]? = some (some v) ∧ L[pl m (n0 + ((j + 1 : Nat) : Nat) * (a : Int))]? = some (some v') ∧ v' ≤ v + a
theorem pl_mod {m d : Nat} (hm : 0 < m) (h : d ∣ m) (n : Int) : (d : Int) ∣ (pl m n : Int) - n := by
  have a1 := Int.emod_nonneg n (show (m : Int) ≠ 0 by omega)
  have e : ((pl m n : Nat) : Int) = n % m := by unfold pl; omega
  obtain ⟨q, hq⟩ := h
  refine ⟨-(q * (n / m)), ?_⟩
  have := Int.emod_def n m
  rw [e, this, Int.mul_neg, ← Int.mul_assoc]
  have : ((d : Nat) : Int) * q = m := by exact_mod_cast hq.symm
  rw [this]
  omega
section
variable {S : Int → Prop} {m a d c : Nat} {n0 : Int} {L0 L : Tab} {t : Nat} {u : Int} (R : Rnd m a d c)
include R
theorem Inn.turn (I : Inn S m a d n0 L0 t L u) (ht : t < c) (hS : ∀ s, S s → S (s + a)) : Inn S m a d n0 L0 (t + 1) (turnL m a L u) (turnV m a L u) := by
  have hm := R.m0
  have hp := pl_lt hm (u + a)
  -- the new value
  have hSu : S u := (I.sound _ _ I.at_).1
  have hclass : (d : Int) ∣ (u + a) - n0 := by
    have h1 : (d : Int) ∣ u - (n0 + (t : Nat) * (a : Int)) := Int.dvd_trans (Int.ofNat_dvd.mpr R.dm) I.cur
    have h2 : (d : Int) ∣ ((t + 1 : Nat) : Int) * a := Int.dvd_mul_of_dvd_right (Int.ofNat_dvd.mpr R.da)
    have e : (u + a) - n0 = (u - (n0 + (t : Nat) * (a : Int))) + ((t + 1 : Nat) : Int) * a := by
      have : ((t + 1 : Nat) : Int) * a = t * a + a := by rw [Int.natCast_add, Int.add_mul]; simp
      omega
    rw [e]
    exact Int.dvd_add h1 h2
  have hpc : (d : Int) ∣ ((pl m (u + a) : Nat) : Int) - n0 := by
    have h1 := pl_mod hm R.dm (u + a)
    have e : ((pl m (u + a) : Nat) : Int) - n0 = ((pl m (u + a) : Nat) : Int) - (u + a) + ((u + a) - n0) := by omega
    rw [e]
    exact Int.dvd_add h1 hclass
  have hv : S (turnV m a L u) ∧ pl m (turnV m a L u) = pl m (u + a) ∧ n0 ≤ turnV m a L u ∧ turnV m a L u ≤ u + a ∧ ∀ k, L[pl m (u + a)]? = some (some k) → turnV m a L u ≤ k := by
    unfold turnV
    split
    · rename_i k hk
      obtain ⟨k1, k2⟩ := I.sound _ _ hk
      have k3 := I.low _ _ hpc hk
      split
      · refine ⟨k1, k2, k3, by omega, fun k' hk' => ?_⟩
        rw [hk] at hk'
        cases hk'
        omega
      · refine ⟨hS u hSu, rfl, by have := I.ge; omega, by omega, fun k' hk' => ?_⟩
        rw [hk] at hk'
        cases hk'
        omega
    · rename_i hk
      exact ⟨hS u hSu, rfl, by have := I.ge; omega, by omega, fun k' hk' => (hk k' hk').elim⟩
  obtain ⟨v1, v2, v3, v4, v5⟩ := hv
  have hcur : (m : Int) ∣ (u + a) - (n0 + ((t + 1 : Nat) : Nat) * (a : Int)) := by
    have e : (u + a) - (n0 + ((t + 1 : Nat) : Nat) * (a : Int)) = u - (n0 + (t : Nat) * (a : Int)) := by
      have : ((t + 1 : Nat) : Int) * a = t * a + a := by rw [Int.natCast_add, Int.add_mul]; simp
      omega
    rw [e]
    exact I.cur
  have hpe : pl m (u + a) = pl m (n0 + ((t + 1 : Nat) : Nat) * (a : Int)) := (pl_eq hm).mpr hcur
  have hut : pl m u = pl m (n0 + (t : Nat) * (a : Int)) := (pl_eq hm).mpr I.cur
  have get_same : (turnL m a L u)[pl m (u + a)]? = some (some (turnV m a L u)) := by
    unfold turnL
    rw [List.getElem?_set_self (by rw [I.len]; exact hp)]
  have get_ne : ∀ i, i ≠ pl m (u + a) → (turnL m a L u)[i]? = L[i]? := fun i hi => by
    unfold turnL
    rw [List.getElem?_set_ne (fun e => hi e.symm)]
  -- where the round closes, nothing changes
  have hst : (turnL m a L u)[pl m n0]? = some (some n0) := by
    by_cases e : pl m n0 = pl m (u + a)
    · rw [e, get_same]
      have h1 := v5 n0 (by rw [← e]; exact I.st)
      have : turnV m a L u = n0 := by omega
      rw [this]
    · rw [get_ne _ e]
      exact I.st
  refine ⟨?_, ?_, ?_, v3, ?_, ?_, ?_, ?_, hst, ?_⟩
  · unfold turnL
    rw [List.length_set]
    exact I.len
  · have h1 := (pl_eq hm).mp v2
    have e : turnV m a L u - (n0 + ((t + 1 : Nat) : Nat) * (a : Int)) = (turnV m a L u - (u + a)) + ((u + a) - (n0 + ((t + 1 : Nat) : Nat) * (a : Int))) := by omega
    rw [e]
    exact Int.dvd_add h1 hcur
  · rw [v2]
    exact get_same
  · intro i v h
    by_cases e : i = pl m (u + a)
    · subst e
      rw [get_same] at h
      cases h
      exact ⟨v1, v2⟩
    · rw [get_ne _ e] at h
      exact I.sound i v h
  · intro i v h
    obtain ⟨v', h1, h2⟩ := I.le i v h
    by_cases e : i = pl m (u + a)
    · subst e
      exact ⟨_, get_same, by have := v5 v' h1; omega⟩
    · exact ⟨v', by rw [get_ne _ e]; exact h1, h2⟩
  · intro i hi
    rw [get_ne i fun e => hi (by rw [e]; exact hpc)]
    exact I.away i hi
  · intro i v hi h
    by_cases e : i = pl m (u + a)
    · subst e
      rw [get_same] at h
      cases h
      exact v3
    · rw [get_ne _ e] at h
      exact I.low i v hi h
  · -- the chain
    by_cases hc : t + 1 = c
    · -- back at n0
      have hback : pl m (u + a) = pl m n0 := by
        rw [hpe]
        refine (pl_eq hm).mpr ?_
        have e : n0 + ((t + 1 : Nat) : Nat) * (a : Int) - n0 = (c : Int) * a := by rw [hc]; omega
        rw [e]
        exact R.turn
      have same : ∀ i, (turnL m a L u)[i]? = L[i]? := fun i => by
        by_cases e : i = pl m (u + a)
        · rw [e, hback, hst, I.st]
        · exact get_ne i e
      intro j hj
      by_cases hjt : j < t
      · obtain ⟨v, v', h1, h2, h3⟩ := I.chain j hjt
        exact ⟨v, v', by rw [same]; exact h1, by rw [same]; exact h2, h3⟩
      · have : j = t := by omega
        subst this
        exact ⟨u, _, by rw [same, ← hut]; exact I.at_, by rw [← hpe]; exact get_same, v4⟩
    · have far : ∀ j : Nat, j ≤ t → pl m (n0 + (j : Nat) * (a : Int)) ≠ pl m (u + a) := fun j hj e => by
        rw [hpe] at e
        have := R.same (n := n0) (show j ≤ t + 1 by omega) (by omega) ((pl_eq hm).mp e)
        omega
      intro j hj
      by_cases hjt : j < t
      · obtain ⟨v, v', h1, h2, h3⟩ := I.chain j hjt
        exact ⟨v, v', by rw [get_ne _ (far j (by omega))]; exact h1, by rw [get_ne _ (far (j + 1) (by omega))]; exact h2, h3⟩
      · have : j = t := by omega
        subst this
        exact ⟨u, _, by rw [get_ne _ (far j (by omega)), ← hut]; exact I.at_, by rw [← hpe]; exact get_same, v4⟩
/-- behind the round: each place of the class leads on -/
theorem Inn.closed (I : Inn S m a d n0 L0 c L u) : ∀ i : Nat, i < m → (d : Int) ∣ (i : Int) - n0 → Clo m a L i := fun i hi hd v hv => by
  have hm := R.m0
  obtain ⟨j, hj, e⟩ := R.met hd
  obtain ⟨w, w', h1, h2, h3⟩ := I.chain j hj
  have hpi : pl m ((i : Nat) : Int) = i := by
    unfold pl
    rw [Int.emod_eq_of_lt (by omega) (by omega)]
    rfl
  have e1 : i = pl m (n0 + (j : Nat) * (a : Int)) := by rw [← hpi]; exact (pl_eq hm).mpr e
  rw [← e1, hv] at h1
  cases h1
  refine ⟨w', ?_, h3⟩
  have h4 := (I.sound i v hv).2
  have h5 : (m : Int) ∣ v - (n0 + (j : Nat) * (a : Int)) := (pl_eq hm).mp (by rw [h4]; exact e1)
  have e2 : pl m (v + a) = pl m (n0 + ((j + 1 : Nat) : Nat) * (a : Int)) := by
    refine (pl_eq hm).mpr ?_
    have e : v + a - (n0 + ((j + 1 : Nat) : Nat) * (a : Int)) = v - (n0 + (j : Nat) * (a : Int)) := by
      have : ((j + 1 : Nat) : Int) * a = j * a + a := by rw [Int.natCast_add, Int.add_mul]; simp
      omega
    rw [e]
    exact h5
  rw [e2]
  exact h2
end
/-! ### one number more -/
/-- behind the classes below f -/
structure Cls (g : List Int) (m a d : Nat) (L0 : Tab) (f : Nat) (L : Tab) : Prop where
  len : L.length = m
  sound : Sound (Sg (g ++ [(a : Int)])) m L
  le : Low L0 L
  clo : ∀ i : Nat, i < m → i % d < f → Clo m a L i
/-- all sums of g have their least one -/
structure TabS (g : List Int) (m : Nat) (L : Tab) : Prop where
  len : L.length = m
  sound : Sound (Sg g) m L
  has : ∀ s, Sg g s → Has m L s
theorem Cls.start {g : List Int} {m a d : Nat} {L : Tab} (h : TabS g m L) : Cls g m a d L 0 L :=
  ⟨h.len, fun i v e => ⟨(h.sound i v e).1.up fun b hb => List.mem_append_left _ hb, (h.sound i v e).2⟩, .refl L, fun i _ h => by omega⟩
theorem Cls.done {g : List Int} {m a d c : Nat} {L0 L : Tab} (R : Rnd m a d c) (h0 : TabS g m L0) (h : Cls g m a d L0 d L) : TabS (g ++ [(a : Int)]) m L := by
  refine ⟨h.len, h.sound, fun s q => ?_⟩
  obtain ⟨k, t, h1, rfl⟩ := Sg.snoc.mp q
  clear q
  have hm := R.m0
  induction k with
  | zero =>
    have := (h0.has t h1).low h.le
    simpa using this
  | succ k ih =>
    obtain ⟨v, h2, h3⟩ := ih
    have h4 := h.clo _ (pl_lt hm _) (Nat.mod_lt _ R.d0) v h2
    have h5 := (h.sound _ _ h2).2
    have e : ((k + 1 : Nat) : Int) * a = k * a + a := by rw [Int.natCast_add, Int.add_mul]; simp
    refine h4.le ?_ hm (by omega)
    have h6 := (pl_eq hm).mp h5
    have e2 : t + ((k + 1 : Nat) : Int) * a - (v + a) = -(v - (t + (k : Nat) * (a : Int))) := by omega
    rw [e2]
    exact Int.dvd_neg.mpr h6
/-- a class without sums -/
theorem Cls.skip {g : List Int} {m a d f : Nat} {L0 L : Tab} (h : Cls g m a d L0 f L) (hn : ∀ (i : Nat) (v : Int), i < m → i % d = f → L[i]? ≠ some (some v)) : Cls g m a d L0 (f + 1) L :=
  ⟨h.len, h.sound, h.le, fun i hi hf => by
    by_cases e : i % d = f
    · exact fun v hv => (hn i v hi e hv).elim
    · exact h.clo i hi (by omega)⟩
theorem Cls.inn {g : List Int} {m a d c f : Nat} {L0 L : Tab} (R : Rnd m a d c) (h : Cls g m a d L0 f L) {p : Nat} {n0 : Int} (hp : p < m) (hf : p % d = f) (h1 : L[p]? = some (some n0)) (h2 : ∀ (i : Nat) (v : Int), i < m → i % d = f → L[i]? = some (some v) → n0 ≤ v) :
    Inn (Sg (g ++ [(a : Int)])) m a d n0 L 0 L n0 := by
  have hpl := (h.sound p n0 h1).2
  refine ⟨h.len, by simp, by rw [hpl]; exact h1, by omega, h.sound, .refl L, fun i _ => rfl, fun i v hi hv => ?_, by rw [hpl]; exact h1, fun j hj => by omega⟩
  have hi2 : i < m := by
    have := (List.getElem?_eq_some_iff.mp hv).1
    have := h.len
    omega
  refine h2 i v hi2 ?_ hv
  have h3 := pl_mod R.m0 R.dm n0
  rw [hpl] at h3
  have h4 : (d : Int) ∣ (i : Int) - (p : Int) := by
    have e : (i : Int) - p = (i - n0) - (p - n0) := by omega
    rw [e]
    exact Int.dvd_sub hi h3
  have h5 : (i : Int) % d = (p : Int) % d := Int.emod_eq_emod_iff_emod_sub_eq_zero.mpr (Int.emod_eq_zero_of_dvd h4)
  rw [← hf]
  exact_mod_cast h5
theorem Cls.next {g : List Int} {m a d c f : Nat} {L0 L L' : Tab} {n0 u : Int} (R : Rnd m a d c) (h : Cls g m a d L0 f L) (hn : (pl m n0) % d = f) (I : Inn (Sg (g ++ [(a : Int)])) m a d n0 L c L' u) : Cls g m a d L0 (f + 1) L' := by
  have cls : ∀ i : Nat, i < m → ((d : Int) ∣ (i : Int) - n0 ↔ i % d = f) := fun i hi => by
    have h3 := pl_mod R.m0 R.dm n0
    constructor
    · intro q
      have h4 : (d : Int) ∣ (i : Int) - (pl m n0 : Nat) := by
        have e : (i : Int) - (pl m n0 : Nat) = (i - n0) - ((pl m n0 : Nat) - n0) := by omega
        rw [e]
        exact Int.dvd_sub q h3
      have h5 : (i : Int) % d = ((pl m n0 : Nat) : Int) % d := Int.emod_eq_emod_iff_emod_sub_eq_zero.mpr (Int.emod_eq_zero_of_dvd h4)
      rw [← hn]
      exact_mod_cast h5
    · intro q
      have h5 : (i : Int) % d = ((pl m n0 : Nat) : Int) % d := by exact_mod_cast q.trans hn.symm
      have h6 := Int.dvd_of_emod_eq_zero (Int.emod_eq_emod_iff_emod_sub_eq_zero.mp h5)
      have e : (i : Int) - n0 = (i - (pl m n0 : Nat)) + ((pl m n0 : Nat) - n0) := by omega
      rw [e]
      exact Int.dvd_add h6 h3
  refine ⟨I.len, I.sound, h.le.trans I.le, fun i hi hf => ?_⟩
  by_cases e : i % d = f
  · exact I.closed R i hi ((cls i hi).mpr e)
  · intro v hv
    have hni : ¬ (d : Int) ∣ (i : Int) - n0 := fun q => e ((cls i hi).mp q)
    rw [I.away i hni] at hv
    have h7 := h.clo i hi (by omega) v hv
    exact h7.low I.le
theorem tab_start {m : Nat} (hm : 0 < m) : TabS [] m ((List.replicate m none).set 0 (some 0)) := by
  refine ⟨by simp, fun i v h => ?_, fun s q => ?_⟩
  · rw [List.getElem?_set] at h
    split at h
    · rename_i e
      subst e
      simp [hm] at h
      subst h
      exact ⟨.zero, by simp [pl]⟩
    · rw [List.getElem?_replicate] at h
      split at h <;> simp at h
  · rw [sg_nil] at q
    subst q
    exact ⟨0, by simp [pl, hm], by omega⟩
/-- membership told by the table -/
def holds (m : Nat) (L : Tab) (n : Int) : Bool := match L[pl m n]? with
  | some (some v) => decide (v ≤ n)
  | _ => false
theorem TabS.holds {g : List Int} {m : Nat} {L : Tab} (h : TabS g m L) (hm : 0 < m) (hg : Sg g m) {n : Int} (hn : 0 ≤ n) : holds m L n = true ↔ Sg g n := by
  unfold NM.holds
  constructor
  · intro q
    split at q
    · rename_i v hv
      have hle := of_decide_eq_true q
      obtain ⟨h1, h2⟩ := h.sound _ _ hv
      obtain ⟨k, hk⟩ := (pl_eq hm).mp h2.symm
      have hk0 : 0 ≤ k := by
        refine Int.not_lt.mp fun hneg => ?_
        have : (m : Int) * k < 0 := Int.mul_neg_of_pos_of_neg (by omega) hneg
        omega
      obtain ⟨j, rfl⟩ := Int.eq_ofNat_of_zero_le hk0
      have e : n = v + (j : Nat) * (m : Int) := by rw [Int.mul_comm]; omega
      rw [e]
      exact h1.plus (hg.mul j)
    · cases q
  · intro q
    obtain ⟨v, h1, h2⟩ := h.has n q
    rw [h1]
    exact decide_eq_true h2
end NM

/-! properties and isinstance of an own class. -/
namespace Z
open PySem PySem.Spec PyProof.Rows L2
section
variable {P : Program} {w : World} {K : PySem.W.Frag} {mg : Str → Option Value} {base : Heap}
/-- a property f of C that gives the field fld -/
structure Prp (P : Program) (w : World) (K : PySem.W.Frag) (mg : Str → Option Value) (base : Heap) (k : Nat) (C : Addr) (f fld : Str) : Prop where
  ex : ∃ p g fd, Cls K C ∧ PropOf K C f p g ∧ Binds K fd ["self"] [] ∧ FnOk P w K mg base (L2N.CX P w) k g fd ["self"] (getSp C fld)
theorem pe_prp {X : Cx} {k j : Nat} {C : Addr} {f fld : Str} {e : Expr} {ta : TE} {pos : Pos} (c : Prp X.prog X.w X.K X.mg X.base k C f fld) (hr : Room j X.A) (hkj : k + 1 ≤ j) (he : PE X e ta) (hab : attributeBase e f X.env (eval e X.env) = eval e X.env := by rfl) :
    PE X (.Attribute e f pos) (tProp C (getSp C fld) [] E0 ta) := by
  obtain ⟨p, g, fd, hc, hp, hb, F⟩ := c.ex
  exact pe_prop he hc hp F (hr.mono hkj) hb .nil Z.passN hab
/-- what isinstance asks of a class -/
structure IsC (K : PySem.W.Frag) (C : Addr) : Prop where
  c : PySem.W.findIn K (.ref C) "__class__" = some (some (.builtin "object.__class__"))
  g : PySem.W.specialIn K (.builtin "object.__class__") "__get__" = some (some (.builtin "getset_descriptor.__get__"))
  t : PySem.W.takesIn K (.builtin "object.__class__") = some true
  o : PySem.W.mroIn K C (.type "object") = some true
theorem isi_own {C a dx : Addr} {fs : List (Str × V)} {H : Hp} {Q : VK} (hc : Cls K C) (i : IsC K C) (h : H a = some (.ins C dx fs)) (q : Q (.bl true) H) : rIsi K [.ref a, .ref C] H Q :=
  ⟨.ref a, .ref C, .ref C, .ref C, true, rfl, .own C, .base (.ins h hc i.c i.g i.t i.o), by unfold PySem.W.kitOne; simp, q⟩
end
end Z

namespace Z
open PySem PySem.Spec PyProof.Rows L2
theorem bitAnd_nat (a b : Nat) : Builtin.bitAnd (a : Int) (b : Int) = ((a &&& b : Nat) : Int) := by
  unfold Builtin.bitAnd
  rw [decide_eq_true (Int.natCast_nonneg a), decide_eq_true (Int.natCast_nonneg b)]
  rfl
theorem bitNot_eq (x : Int) : Builtin.bitNot x = -x - 1 := rfl
theorem bitOr_nat (a b : Nat) : Builtin.bitOr (a : Int) (b : Int) = ((a ||| b : Nat) : Int) := by
  unfold Builtin.bitOr Builtin.bitAnd
  have h : ∀ c : Nat, ¬ (0 : Int) ≤ Builtin.bitNot (c : Int) := fun c => by rw [bitNot_eq]; omega
  rw [decide_eq_false (h a), decide_eq_false (h b)]
  have e : ∀ c : Nat, Builtin.bitNot (Builtin.bitNot (c : Int)) = c := fun c => by rw [bitNot_eq, bitNot_eq]; omega
  simp only [e]
  rfl
theorem shr_nat (N n : Nat) : (N : Int) / 2 ^ (n : Int).toNat = ((N >>> n : Nat) : Int) := by
  rw [Int.toNat_natCast, Nat.shiftRight_eq_div_pow]
  simp
theorem shl_nat (N n : Nat) : (N : Int) * 2 ^ (n : Int).toNat = ((N <<< n : Nat) : Int) := by
  rw [Int.toNat_natCast, Nat.shiftLeft_eq]
  simp
theorem bit_is (N n : Nat) : decide (Builtin.bitAnd ((N : Int) / 2 ^ (n : Int).toNat) 1 = 1) = N.testBit n := by
  rw [shr_nat, show (1 : Int) = ((1 : Nat) : Int) from rfl, bitAnd_nat, Nat.and_one_is_mod]
  unfold Nat.testBit
  rw [Nat.and_comm, Nat.and_one_is_mod]
  rcases Nat.mod_two_eq_zero_or_one (N >>> n) with h | h <;> rw [h] <;> decide
theorem mask_nat (N k : Nat) : Builtin.bitAnd (N : Int) ((2 ^ k - 1 : Nat) : Int) = ((N % 2 ^ k : Nat) : Int) := by
  rw [bitAnd_nat, Nat.and_two_pow_sub_one_eq_mod]
end Z

namespace NM
theorem step_in {g l : List Int} {n : Int} (h : ∀ s, Sg g s ↔ Sg l s) (hn : Sg g n) : ∀ s, Sg g s ↔ Sg (l ++ [n]) s := fun s => by
  constructor
  · intro q
    exact ((h s).mp q).up fun a ha => List.mem_append_left _ ha
  · intro q
    refine q.sub fun a ha => ?_
    rcases List.mem_append.mp ha with ha | ha
    · exact (h a).mpr (.mem ha)
    · rw [List.mem_singleton] at ha
      rw [ha]
      exact hn
theorem step_out {g l : List Int} {n : Int} (h : ∀ s, Sg g s ↔ Sg l s) : ∀ s, Sg (g ++ [n]) s ↔ Sg (l ++ [n]) s := fun s => by
  constructor
  · intro q
    refine q.sub fun a ha => ?_
    rcases List.mem_append.mp ha with ha | ha
    · exact ((h a).mp (.mem ha)).up fun a ha => List.mem_append_left _ ha
    · exact .mem (List.mem_append_right _ ha)
  · intro q
    refine q.sub fun a ha => ?_
    rcases List.mem_append.mp ha with ha | ha
    · exact ((h a).mpr (.mem ha)).up fun a ha => List.mem_append_left _ ha
    · exact .mem (List.mem_append_right _ ha)
theorem take_snoc {l : List Int} {i : Nat} {n : Int} (h : l[i]? = some n) : l.take (i + 1) = l.take i ++ [n] := by
  rw [List.take_add_one, h]
  rfl
/-- what the loop of the least numbers keeps -/
structure Found (ms : List Int) (i : Nat) (g : List Int) : Prop where
  least : Least g
  sub : ∀ a ∈ g, a ∈ ms.take i
  same : ∀ s, Sg g s ↔ Sg (ms.take i) s
theorem Found.start (ms : List Int) : Found ms 0 [] := ⟨least_nil, fun a h => by simp at h, fun s => by simp⟩
theorem Found.in_ {ms g : List Int} {i : Nat} {n : Int} (F : Found ms i g) (h : ms[i]? = some n) (hn : Sg g n) : Found ms (i + 1) g where
  least := F.least
  sub a ha := by
    rw [take_snoc h]
    exact List.mem_append_left _ (F.sub a ha)
  same := by
    rw [take_snoc h]
    exact step_in F.same hn
theorem Found.out {ms g : List Int} {i : Nat} {n : Int} (F : Found ms i g) (asc : ms.Pairwise (· < ·)) (hp : 0 < n) (h : ms[i]? = some n) (hn : ¬ Sg g n) : Found ms (i + 1) (g ++ [n]) where
  least := F.least.snoc hp (fun b hb => by
    have h1 := F.sub b hb
    obtain ⟨j, hj⟩ := List.getElem?_of_mem h1
    have hji : j < i := by
      have := (List.getElem?_eq_some_iff.mp hj).1
      rw [List.length_take] at this
      omega
    rw [List.getElem?_take_of_lt hji] at hj
    obtain ⟨q1, q2⟩ := List.getElem?_eq_some_iff.mp hj
    obtain ⟨q3, q4⟩ := List.getElem?_eq_some_iff.mp h
    have := List.pairwise_iff_getElem.mp asc j i q1 q3 hji
    omega) hn
  sub a ha := by
    rw [take_snoc h]
    rcases List.mem_append.mp ha with ha | ha
    · exact List.mem_append_left _ (F.sub a ha)
    · exact List.mem_append_right _ ha
  same := by
    rw [take_snoc h]
    exact step_out F.same
theorem Found.done {ms g : List Int} (F : Found ms ms.length g) : Least g ∧ (∀ a ∈ g, a ∈ ms) ∧ ∀ s, Sg g s ↔ Sg ms s := by
  have e : ms.take ms.length = ms := List.take_length
  have h1 := F.sub
  have h2 := F.same
  rw [e] at h1 h2
  exact ⟨F.least, h1, h2⟩
theorem same_of_mem {a b : List Int} (h : ∀ k, k ∈ a ↔ k ∈ b) : ∀ s, Sg a s ↔ Sg b s := fun s => ⟨fun q => q.up fun k hk => (h k).mp hk, fun q => q.up fun k hk => (h k).mpr hk⟩
/-- membership, as a Bool -/
noncomputable def mem (g : List Int) (n : Int) : Bool := @decide (Sg g n) (Classical.propDecidable _)
theorem mem_iff {g : List Int} {n : Int} : mem g n = true ↔ Sg g n := by
  unfold mem
  exact @decide_eq_true_iff _ (Classical.propDecidable _)
theorem mem_same {g k : List Int} (h : ∀ s, Sg g s ↔ Sg k s) (n : Int) : mem g n = mem k n := by
  rw [Bool.eq_iff_iff, mem_iff, mem_iff, h n]
end NM

namespace Z
open PySem PySem.Spec PyProof.Rows L2
section
variable {K : PySem.W.Frag} {g : TG} {tb : TS} {tl : TE} {ta : TA} {Dn : Ends} {σ : L2.St} {H : Hp}
/-- for x in l, l a list that the expression makes -/
theorem forLn (C : Addr → List V → Hp → Prop) (ht : ∀ R : VK, (∀ p xs H1, C p xs H1 → R (.ref p) H1) → tl σ H R) (hS : ∀ p xs H1, C p xs H1 → SqL K H1 p xs) (Pv : Addr → List V → Nat → L2.St → Hp → Prop) (h0 : ∀ p xs H1, C p xs H1 → Pv p xs 0 σ H1)
    (hG : ∀ p xs i σ' H', Pv p xs i σ' H' → SqL K H' p xs)
    (hs : ∀ p xs (i : Nat) (x : V) σ' H', xs[i]? = some x → Pv p xs i σ' H' → g x σ' H' fun σ2 H2 => tb { Dn with nx := Pv p xs (i + 1), ct := Pv p xs (i + 1), bk := Dn.nx } σ2 H2)
    (hd : ∀ p xs σ' H', Pv p xs xs.length σ' H' → Dn.nx σ' H') : tFor (iList K tl) g tb Dn σ H :=
  ht _ fun p xs H1 c => ⟨p, rfl, ⟨xs, hS p xs H1 c⟩, for_list (Pv p xs) (h0 p xs H1 c) (fun i σ' H' _ q => hG p xs i σ' H' q) (fun i x σ' H' hx q => hs p xs i x σ' H' hx q) (hd p xs)⟩
end
theorem map_get {α β : Type} {f : α → β} {l : List α} {i : Nat} {y : β} (h : (l.map f)[i]? = some y) : ∃ x, l[i]? = some x ∧ y = f x := by
  rw [List.getElem?_map] at h
  cases e : l[i]? with
  | none =>
    rw [e] at h
    cases h
  | some x =>
    rw [e] at h
    cases h
    exact ⟨x, rfl, rfl⟩
end Z

namespace Z
open PySem PySem.Spec PyProof.Rows L2
section
variable {K : PySem.W.Frag} {H : Hp}
theorem dp_ints (ss : List Int) : DpAll K H (ss.map V.int) (ss.map PyData.int) := by
  induction ss with
  | nil => exact .nil
  | cons s ss ih => exact .cons (.int s) ih
end
theorem eqv_ints : ∀ ss ts : List Int, PyData.eqvAll (ss.map PyData.int) (ts.map PyData.int) = decide (ss = ts)
  | [], [] => rfl
  | [], _ :: _ => rfl
  | _ :: _, [] => rfl
  | s :: ss, t :: ts => by
    show (PyData.eqv (.int s) (.int t) && PyData.eqvAll (ss.map PyData.int) (ts.map PyData.int)) = _
    rw [eqv_ints ss ts]
    have e : PyData.eqv (.int s) (.int t) = decide (s = t) := by
      show (s == t) = decide (s = t)
      rfl
    rw [e, Bool.eq_iff_iff]
    simp
theorem lay_ints (ss : List Int) : PyData.canLayAll0 (ss.map PyData.int) = true := by
  induction ss with
  | nil => rfl
  | cons s ss ih =>
    show (PyData.canLay0 (.int s) && PyData.canLayAll0 (ss.map PyData.int)) = true
    rw [ih]
    rfl
theorem depth_ints : ∀ ss : List Int, PyData.depthAll (ss.map PyData.int) = 0
  | [] => rfl
  | s :: ss => by
    show Nat.max (PyData.depth (.int s)) (PyData.depthAll (ss.map PyData.int)) = 0
    rw [depth_ints ss]
    rfl
theorem shaped_ints (ss : List Int) : SeqAt.shaped (.tuple (ss.map PyData.int)) = true := by
  show (PyData.canLayAll0 (ss.map PyData.int) && decide (PyData.depthAll (ss.map PyData.int) + 1 ≤ 64)) = true
  rw [lay_ints, depth_ints]
  rfl
theorem shaped_intsL (ss : List Int) : SeqAt.shaped (.list (ss.map PyData.int)) = true := by
  show (PyData.canLayAll0 (ss.map PyData.int) && decide (PyData.depthAll (ss.map PyData.int) + 1 ≤ 64)) = true
  rw [lay_ints, depth_ints]
  rfl
theorem inV_ints (n : Int) (ss : List Int) : inV (.int n) (ss.map V.int) = decide (n ∈ ss) := by
  unfold inV
  rw [List.any_map, Bool.eq_iff_iff, List.any_eq_true, decide_eq_true_eq]
  constructor
  · rintro ⟨x, h1, h2⟩
    have : x = n := by simpa [eqV] using h2
    rw [← this]
    exact h1
  · intro h
    exact ⟨n, h, by simp [eqV]⟩
theorem flat_ints (ss : List Int) : (ss.map V.int).all flatV = true := by
  rw [List.all_map, List.all_eq_true]
  intro x _
  rfl
section
variable {K : PySem.W.Frag} {g : TG} {te tl : TE} {vs : List Nat} {σ : L2.St} {H : Hp} {Q : VK} {a : Addr} {xs : List V}
/-- [x for x in t if t] -/
theorem lcFiltT {tt : TT} {j : Nat} (ht : ∀ R : VK, R (.ref a) H → tl σ H R) (hS : SqT K H a xs) (hn : xs.length ≤ 90000) (hj : j < σ.length) (p : V → Bool)
    (hs : ∀ (x : V) (H' : Hp) (F : Bool → Hp → Prop), x ∈ xs → Ex H H' → (∀ H3, Ex H' H3 → F (p x) H3) → tt ((wipe σ [j]).set j (some x)) H' F)
    (k : ∀ D H', H D = none → Ex H H' → H' D = some (.lst (xs.filter p)) → Q (.ref D) H') : tLc (iTup K tl) (gName j) tt (tVar j) [j] σ H Q := by
  refine ht _ ⟨a, rfl, ⟨xs, hS⟩, fun D hD => lc_it walk_tup (fun i H' => Ex H H' ∧ H' D = some (.lst ((xs.take i).filter p))) ⟨.new hD, upd_same⟩ (fun i H' _ q => q.1.seqT hS) ?_ ?_⟩
  · rintro i x H' H'' hi ⟨q1, q2⟩ ⟨e, hx⟩
    subst e
    have hjl : j < (wipe σ [j]).length := by
      rw [wipe_length]
      exact hj
    refine ⟨?_, ?_⟩
    · show ((wipe σ []).set j none |>.set j (some x)).set j none = (wipe σ []).set j none
      rw [List.set_set, List.set_set]
    · have et : xs.take (i + 1) = xs.take i ++ [x] := by
        rw [List.take_add_one, hx]
        rfl
      refine hs x _ _ (List.mem_of_getElem? hx) q1 fun H3 e3 => ?_
      have e4 := e3.get q2
      cases hp : p x
      · refine iteF ⟨q1.trans e3, ?_⟩
        rw [et, List.filter_append, List.filter_cons, hp]
        simpa using e4
      · refine iteT ⟨x, List.getElem?_set_self hjl, _, e4, smallt ?_, (q1.trans e3).put e4 (.inl hD), ?_⟩
        · have h1 := List.length_filter_le p (xs.take i)
          rw [List.length_take] at h1
          omega
        · rw [upd_same, et, List.filter_append, List.filter_cons, hp]
          rfl
  · rintro H' ⟨q1, q2⟩
    rw [List.take_length] at q2
    exact k D H' hD q1 q2
end
end Z

namespace NM
theorem sg_rec {g : List Int} (hp : Pos g) {n : Int} (hn : 0 < n) : Sg g n ↔ ∃ a ∈ g, a ≤ n ∧ Sg g (n - a) := by
  constructor
  · intro q
    cases q with
    | zero => omega
    | @add a s ha hs =>
      have := Sg.nonneg hp hs
      refine ⟨a, ha, by omega, ?_⟩
      have e : a + s - a = s := by omega
      rw [e]
      exact hs
  · rintro ⟨a, ha, h1, h2⟩
    have := Sg.add ha h2
    have e : a + (n - a) = n := by omega
    rwa [e] at this
theorem mem_rec {g : List Int} (hp : Pos g) {n : Int} (hn : 0 < n) : mem g n = (g.filter fun a => decide (a ≤ n)).any fun a => mem g (n - a) := by
  rw [Bool.eq_iff_iff, mem_iff, sg_rec hp hn, List.any_eq_true]
  constructor
  · rintro ⟨a, h1, h2, h3⟩
    exact ⟨a, List.mem_filter.mpr ⟨h1, decide_eq_true h2⟩, mem_iff.mpr h3⟩
  · rintro ⟨a, h1, h2⟩
    obtain ⟨h3, h4⟩ := List.mem_filter.mp h1
    exact ⟨a, h3, of_decide_eq_true h4, mem_iff.mp h2⟩
theorem mem_zero (g : List Int) : mem g 0 = true := mem_iff.mpr .zero
theorem mem_neg {g : List Int} (hp : Pos g) {n : Int} (hn : n < 0) : mem g n = false := by
  cases h : mem g n with
  | false => rfl
  | true =>
    have := Sg.nonneg hp (mem_iff.mp h)
    omega
/-- all by a common divisor -/
theorem sg_div {ns : List Int} {d : Int} (hd : 0 < d) (h : ∀ n ∈ ns, d ∣ n) {k : Int} : Sg (ns.map (· / d)) k ↔ Sg ns (k * d) := by
  constructor
  · intro q
    induction q with
    | zero => simpa using Sg.zero
    | @add a s ha hs ih =>
      obtain ⟨n, hn, rfl⟩ := List.mem_map.mp ha
      rw [Int.add_mul, Int.ediv_mul_cancel (h n hn)]
      exact .add hn ih
  · intro q
    have key : ∀ s, Sg ns s → Sg (ns.map (· / d)) (s / d) := fun s q => by
      induction q with
      | zero => simpa using Sg.zero
      | @add a s ha hs ih =>
        rw [Int.add_ediv_of_dvd_left (h a ha)]
        exact .add (List.mem_map.mpr ⟨a, ha, rfl⟩) ih
    have := key _ q
    rwa [Int.mul_ediv_cancel _ (by omega)] at this
theorem sg_dvd {ns : List Int} {d : Int} (h : ∀ n ∈ ns, d ∣ n) {s : Int} (q : Sg ns s) : d ∣ s := by
  induction q with
  | zero => exact Int.dvd_zero d
  | add ha _ ih => exact Int.dvd_add (h _ ha) ih
end NM

namespace Z
open PySem PySem.Spec PyProof.Rows L2
section
variable {K : PySem.W.Frag} {g : TG} {te tl : TE} {tb : TS} {ta : TA} {tt : TT} {Dn : Ends} {vs : List Nat} {σ : L2.St} {H : Hp} {Q : VK} {a : Addr} {xs : List V}
/-- for i in range(lo, hi) -/
theorem forR2 {lo : Int} {n : Nat} (ht : ∀ R : List V → Hp → Prop, R [.int lo, .int (lo + n)] H → ta σ H R) (hlo : -1000000 ≤ lo ∧ lo ≤ 1000000) (hn : n ≤ 100000) (Pv : Nat → L2.St → Hp → Prop) (h0 : Pv 0 σ H)
    (hs : ∀ (i : Nat) σ' H', i < n → Pv i σ' H' → g (.int (lo + i)) σ' H' fun σ2 H2 => tb { Dn with nx := Pv (i + 1), ct := Pv (i + 1), bk := Dn.nx } σ2 H2)
    (hd : ∀ σ' H', Pv n σ' H' → Dn.nx σ' H') : tFor (iRng2 ta) g tb Dn σ H :=
  ht _ ⟨lo, lo + n, rfl, ⟨by omega, by omega, by omega, by omega⟩, by
    have e : (lo + n - lo).toNat = n := by omega
    rw [e]
    exact for_range (lo := lo) (n := n) Pv h0 (fun i σ' H' hi p => hs i σ' H' hi p) hd⟩
/-- [f x for x in l if p x], over a walk of a list or a tuple -/
theorem lcFM_all {J : It} {j : Nat} {G : Hp → Prop} (w : Walk J xs.length G (YAt xs)) (hG : ∀ H', Ex H H' → G H') (hn : xs.length ≤ 90000) (hj : j < σ.length) (p : V → Bool) (f : V → V)
    (hs : ∀ (x : V) (H' : Hp) (F : Bool → Hp → Prop), x ∈ xs → Ex H H' → (∀ H3, Ex H' H3 → F (p x) H3) → tt ((wipe σ [j]).set j (some x)) H' F)
    (he : ∀ (x : V) (H' : Hp) (Q' : VK), x ∈ xs → p x = true → Ex H H' → (∀ H3, Ex H' H3 → Q' (f x) H3) → te ((wipe σ [j]).set j (some x)) H' Q')
    (k : ∀ D H', H D = none → Ex H H' → H' D = some (.lst ((xs.filter p).map f)) → Q (.ref D) H') : ∀ D, H D = none → ∃ W : Nat → Nat → Hp → Prop, (∃ m, W 0 m (upd H D (.lst []))) ∧ ∀ i m H, W i m H →
      (J.stop i H ∧ Q (.ref D) H) ∨ (J.go i H ∧ ∃ Nx : Hp → Prop, (∀ H', Nx H' → ∃ m', m' < m ∧ W (i + 1) m' H') ∧ ∀ x H', J.yld i H x H' → gName j x (wipe σ [j]) H' fun σ2 H2 => wipe σ2 [j] = wipe σ [j] ∧ tt σ2 H2 fun b H3 =>
        if b = true then te σ2 H3 fun y H4 => ∃ acc, H4 D = some (.lst acc) ∧ acc.length < sizeLine ∧ Nx (upd H4 D (.lst (acc ++ [y]))) else Nx H3) := fun D hD => by
  refine lc_it w (fun i H' => Ex H H' ∧ H' D = some (.lst (((xs.take i).filter p).map f))) ⟨.new hD, upd_same⟩ (fun i H' _ q => hG H' q.1) ?_ ?_
  · rintro i x H' H'' hi ⟨q1, q2⟩ ⟨e, hx⟩
    subst e
    have hjl : j < (wipe σ [j]).length := by
      rw [wipe_length]
      exact hj
    refine ⟨?_, ?_⟩
    · show ((wipe σ []).set j none |>.set j (some x)).set j none = (wipe σ []).set j none
      rw [List.set_set, List.set_set]
    · have et : xs.take (i + 1) = xs.take i ++ [x] := by
        rw [List.take_add_one, hx]
        rfl
      have hm := List.mem_of_getElem? hx
      refine hs x _ _ hm q1 fun H3 e3 => ?_
      have e4 := e3.get q2
      cases hp : p x
      · refine iteF ⟨q1.trans e3, ?_⟩
        rw [et, List.filter_append, List.filter_cons, hp]
        simpa using e4
      · refine iteT (he x H3 _ hm hp (q1.trans e3) fun H4 e5 => ?_)
        have e6 := e5.get e4
        refine ⟨_, e6, smallt ?_, ((q1.trans e3).trans e5).put e6 (.inl hD), ?_⟩
        · have h1 := List.length_filter_le p (xs.take i)
          rw [List.length_take] at h1
          rw [List.length_map]
          omega
        · rw [upd_same, et, List.filter_append, List.filter_cons, hp]
          simp
  · rintro H' ⟨q1, q2⟩
    rw [List.take_length] at q2
    exact k D H' hD q1 q2
theorem lcFML {j : Nat} (ht : ∀ R : VK, R (.ref a) H → tl σ H R) (hS : SqL K H a xs) (hn : xs.length ≤ 90000) (hj : j < σ.length) (p : V → Bool) (f : V → V)
    (hs : ∀ (x : V) (H' : Hp) (F : Bool → Hp → Prop), x ∈ xs → Ex H H' → (∀ H3, Ex H' H3 → F (p x) H3) → tt ((wipe σ [j]).set j (some x)) H' F)
    (he : ∀ (x : V) (H' : Hp) (Q' : VK), x ∈ xs → p x = true → Ex H H' → (∀ H3, Ex H' H3 → Q' (f x) H3) → te ((wipe σ [j]).set j (some x)) H' Q')
    (k : ∀ D H', H D = none → Ex H H' → H' D = some (.lst ((xs.filter p).map f)) → Q (.ref D) H') : tLc (iList K tl) (gName j) tt te [j] σ H Q :=
  ht _ ⟨a, rfl, ⟨xs, hS⟩, lcFM_all walk_list (fun H' e => e.seqL hS id) hn hj p f hs he k⟩
theorem lcFMT {j : Nat} (ht : ∀ R : VK, R (.ref a) H → tl σ H R) (hS : SqT K H a xs) (hn : xs.length ≤ 90000) (hj : j < σ.length) (p : V → Bool) (f : V → V)
    (hs : ∀ (x : V) (H' : Hp) (F : Bool → Hp → Prop), x ∈ xs → Ex H H' → (∀ H3, Ex H' H3 → F (p x) H3) → tt ((wipe σ [j]).set j (some x)) H' F)
    (he : ∀ (x : V) (H' : Hp) (Q' : VK), x ∈ xs → p x = true → Ex H H' → (∀ H3, Ex H' H3 → Q' (f x) H3) → te ((wipe σ [j]).set j (some x)) H' Q')
    (k : ∀ D H', H D = none → Ex H H' → H' D = some (.lst ((xs.filter p).map f)) → Q (.ref D) H') : tLc (iTup K tl) (gName j) tt te [j] σ H Q :=
  ht _ ⟨a, rfl, ⟨xs, hS⟩, lcFM_all walk_tup (fun H' e => e.seqT hS) hn hj p f hs he k⟩
/-- [.. for i in range(lo, lo + n)] of known values -/
theorem lcR2f (lo : Int) (n : Nat) (ht : ∀ R : List V → Hp → Prop, R [.int lo, .int (lo + n)] H → ta σ H R) (hlo : -1000000 ≤ lo ∧ lo ≤ 1000000) (hn : n ≤ 90000) (zs : List V) (hz : zs.length = n)
    (hs : ∀ (i : Nat) (z : V) (H' : Hp) (Q' : VK), zs[i]? = some z → Ex H H' → (∀ H3, Ex H' H3 → Q' z H3) → g (.int (lo + (i : Int))) (wipe σ vs) H' fun σ2 H2 => wipe σ2 vs = wipe σ vs ∧ te σ2 H2 Q')
    (k : ∀ D H', H D = none → Ex H H' → H' D = some (.lst zs) → Q (.ref D) H') : tLc (iRng2 ta) g tYes te vs σ H Q := by
  refine ht _ ⟨lo, lo + n, rfl, ⟨by omega, by omega, by omega, by omega⟩, ?_⟩
  have e : (lo + n - lo).toNat = n := by omega
  rw [e]
  refine lc_all (H := H) (walk_range (lo := lo) (n := n)) nob (fun _ => True) (fun i y _ => zs[i]? = some y) hn (fun _ _ => trivial) (fun _ q => q.elim) trivial (fun _ _ _ _ _ _ => trivial) (fun _ _ _ _ q _ => q) (fun i x H' H'' Q' hi g1 g2 ⟨e, hx⟩ q => ?_) fun D ys H' hD e _ h1 h2 h3 => ?_
  · subst e
    rw [hx]
    exact hs i zs[i] _ Q' (List.getElem?_eq_getElem (by omega)) g1 fun H3 e3 => q _ H3 e3 trivial (List.getElem?_eq_getElem (by omega))
  · rw [ext_of (h2.trans hz.symm) h3] at h1
    exact k D H' hD e h1
end
end Z

/-! defs that are called where no repr is under way; repr of data. -/
namespace Z
open PySem PySem.Spec PyProof.Rows L2
theorem cx_no {P : Program} {w : World} {outer : List Env} {H : Hp} {s s' : Shared} {e : Value} (z : L2N.CX P w outer H s E0 e s') : False := by
  obtain ⟨_, _, _, _, _, _, _, _, _, _, _, _, z⟩ := z
  exact z
/-- a promise kept where nothing is being shown -/
structure FnG (P : Program) (w : World) (K : PySem.W.Frag) (mg : Str → Option Value) (base : Heap) (k : Nat) (f : Addr) (fd : FuncData) (ps : List Str) (sp : Sp) : Prop where
  len : ∀ vs H Q E, sp vs H Q E → vs.length = ps.length
  run : ∀ (A : Around) (outer : List Env) (s : Shared) (H : Hp) (args : Args) (us : List Value) (vs : List V) (Q : VK) (E : XK), A.guards = some [] → Room k A → Env0 P w K mg base A outer s H → BindsTo s fd args (ps.zip us) → Vals vs us → sp vs H Q E →
    codeAny (model P w) A (.call (.ref f) args) (CR (L2N.CX P w) outer P w H s Q E) s
structure CalG (P : Program) (w : World) (K : PySem.W.Frag) (mg : Str → Option Value) (base : Heap) (k : Nat) (x : Str) (ps : List Str) (sp : Sp) : Prop where
  ex : ∃ f fd, mg x = some (.ref f) ∧ PySem.W.keepIn K (.ref f) = true ∧ Binds K fd ps [] ∧ FnG P w K mg base k f fd ps sp
abbrev BodyG (P : Program) (w : World) (K : PySem.W.Frag) (mg : Str → Option Value) (base : Heap) (k : Nat) (q : Str) (N : List Str) (st : Stmt) (sp : Sp) : Prop :=
  ∀ (f : Addr) (cdv : Value) (A : Around) (outer : List Env) (s : Shared) (H : Hp) (vs : List V) (Q : VK) (E : XK), A.guards = some [] → Room k (A.deeper (envOfC q (defScope st) s.heap.objs.size f cdv)) → sp vs H Q E →
    ∃ t, PSs (cxOf (L2N.CX P w) P w K mg base N q (defScope st) f cdv A outer s H E).nox (defBody st) t ∧ t { nx := fun _ H' => Q .non H', rt := Q } (start N vs) H
abbrev BodyGX (P : Program) (w : World) (K : PySem.W.Frag) (mg : Str → Option Value) (base : Heap) (k : Nat) (q : Str) (N : List Str) (st : Stmt) (sp : Sp) : Prop :=
  ∀ (f : Addr) (cdv : Value) (A : Around) (outer : List Env) (s : Shared) (H : Hp) (vs : List V) (Q : VK) (E : XK), A.guards = some [] → Room k (A.deeper (envOfC q (defScope st) s.heap.objs.size f cdv)) → sp vs H Q E →
    ∃ t, PSs (cxOf (L2N.CX P w) P w K mg base N q (defScope st) f cdv A outer s H E) (defBody st) t ∧ t { nx := fun _ H' => Q .non H', rt := Q } (start N vs) H
section
variable {P : Program} {w : World} {K : PySem.W.Frag} {mg : Str → Option Value} {base : Heap}
theorem FunD.okG {x qual : Str} {params : Arguments} {body : List Stmt} {scope : Scope} {f : Addr} {fd : FuncData} {N ps : List Str} {k : Nat} {sp : Sp} (F : FunD K x qual params body scope [] [] f fd) (S : FnScope N ps scope) (len : ∀ vs H Q E, sp vs H Q E → vs.length = ps.length)
    (hbody : ∀ (cdv : Value) (A : Around) (outer : List Env) (s : Shared) (H : Hp) (vs : List V) (Q : VK) (E : XK), A.guards = some [] → Room k (A.deeper (envOfC qual scope s.heap.objs.size f cdv)) → sp vs H Q E →
      ∃ t, PSs (cxOf (L2N.CX P w) P w K mg base N qual scope f cdv A outer s H E) body t ∧ t { nx := fun _ H' => Q .non H', rt := Q } (start N vs) H) : FnG P w K mg base (k + 1) f fd ps sp := by
  obtain ⟨oc, od, dV, kV, doc, pm, an, cdv, ct, osl, rfl, lk, hcd, _, _⟩ := F.ex
  refine ⟨len, fun A outer s H args us vs Q E hgd hr e0 hb r hsp => ?_⟩
  exact LamX.run_ofS lk hcd S hr e0 hb r (len _ _ _ _ hsp) fun hr2 => hbody cdv A outer s H vs Q E hgd hr2 hsp
theorem Df.calG {x : Str} {st : Stmt} {N ps : List Str} {k : Nat} {sp : Sp} (D : Df K mg x st) (S : FnScope N ps (defScope st)) (hb : Bnd x x st ps) (len : ∀ vs H Q E, sp vs H Q E → vs.length = ps.length)
    (body : BodyG P w K mg base k x N st sp) : CalG P w K mg base (k + 1) x ps sp := by
  obtain ⟨f, fd, hm, F⟩ := D.ex
  refine ⟨f, fd, hm, F.kp, F.bindsN hb, FunD.okG F S len fun cdv A outer s H vs Q E hgd hr h => ?_⟩
  obtain ⟨t, h1, h2⟩ := body f cdv A outer s H vs Q E hgd hr h
  exact ⟨t, h1.nox, h2⟩
theorem Df.calGX {x : Str} {st : Stmt} {N ps : List Str} {k : Nat} {sp : Sp} (D : Df K mg x st) (S : FnScope N ps (defScope st)) (hb : Bnd x x st ps) (len : ∀ vs H Q E, sp vs H Q E → vs.length = ps.length)
    (body : BodyGX P w K mg base k x N st sp) : CalG P w K mg base (k + 1) x ps sp := by
  obtain ⟨f, fd, hm, F⟩ := D.ex
  exact ⟨f, fd, hm, F.kp, F.bindsN hb, FunD.okG F S len fun cdv A outer s H vs Q E hgd hr h => body f cdv A outer s H vs Q E hgd hr h⟩
end
section
variable {X : Cx} {k j : Nat} {x : Str} {ps : List Str} {sp : Sp} {e : Expr} {es : List Expr} {t : TA} {p pos : Pos}
theorem run_fnG {f : Addr} {fd : FuncData} {pins : List (Addr × Obj)} {s : Shared} {σ : L2.St} {H : Hp} {us : List Value} {vs : List V} {Q : VK} (F : FnG X.prog X.w X.K X.mg X.base k f fd ps sp) (hgd : X.A.guards = some []) (hb : Binds X.K fd ps []) (hr : Room k X.A)
    (I : L2.Inv X pins σ H s) (r : Vals vs us) (q : sp vs H Q E0) : wpAny (model X.prog X.w) X.A (call (.ref f) us) (EP X pins σ Q) X.xe s := by
  have hl : us.length = ps.length := by rw [← r.length]; exact F.len _ _ _ _ q
  have hb2 := hb s us I.kIn (by rw [List.append_nil]; exact hl)
  rw [List.append_nil] at hb2
  refine wpAny_call (codeAny_mono (F.run X.A X.stack s H ⟨us, []⟩ us vs _ E0 hgd hr I.env0 hb2 r q) fun r s' hq => ?_)
  cases r with
  | error er => exact (cx_no hq).elim
  | ok fl =>
    cases fl with
    | ret u => exact I.after hq
    | next => exact False.elim hq
    | brk => exact False.elim hq
    | cont => exact False.elim hq
theorem pe_calG (c : CalG X.prog X.w X.K X.mg X.base k x ps sp) (hgd : X.A.guards = some []) (hr : Room j X.A) (hkj : k ≤ j) (hg : Gl X x) (ha : PA X (e :: es) t) (hdb : (x == ("__debug__" : Str)) = false := by decide)
    (he : starEach (e :: es) X.env = (false, eval e X.env) :: starEach es X.env := by rfl) (hpl : (backTo pos (starEach es X.env)).any (·.1) = false := by rfl) : PE X (.Call (.Name x p) (e :: es) [] pos) (tCall sp [] E0 t) := by
  obtain ⟨f, fd, hm, hk, hb, F⟩ := c.ex
  refine ⟨fun pins s σ H Q I h => ?_⟩
  refine wpAny_Call_Name_kw (ld_glob I hg hm ?_ hdb)
  refine PySem.W.callWith_K (h₀ := X.base) I.ok.mod.kin hk (thn (ha.run pos pins s σ H _ I h) fun us s1 ⟨vs, H1, I1, r, q⟩ => ⟨I1.kIn, ?_⟩) he hpl
  have q2 : sp (vs ++ []) H1 Q E0 := q
  rw [List.append_nil] at q2
  exact run_fnG F hgd hb (hr.mono hkj) I1 r q2
end
/-! ### repr of data -/
mutual
theorem dp_nodict {K : PySem.W.Frag} {H : Hp} : ∀ (d : PyData) (v : V), Dp K H v d → d.hasDict = false
  | .none, _, _ => by simp only [PyData.hasDict]
  | .bool _, _, _ => by simp only [PyData.hasDict]
  | .int _, _, _ => by simp only [PyData.hasDict]
  | .str _, _, _ => by simp only [PyData.hasDict]
  | .list xs, _, h => by
    cases h with
    | lst _ h => simp only [PyData.hasDict]; exact dp_nodicts xs _ h
  | .tuple xs, _, h => by
    cases h with
    | tup _ h => simp only [PyData.hasDict]; exact dp_nodicts xs _ h
  | .dict _, _, h => by cases h
theorem dp_nodicts {K : PySem.W.Frag} {H : Hp} : ∀ (ds : List PyData) (vs : List V), DpAll K H vs ds → PyData.hasDictAll ds = false
  | [], _, _ => by simp only [PyData.hasDictAll]
  | d :: ds, _, h => by
    cases h with
    | cons h1 h2 => simp only [PyData.hasDictAll, dp_nodict d _ h1, dp_nodicts ds _ h2, Bool.or_false]
end
/-- what can be shown -/
def Shows (d : PyData) : Prop := d.showable = true ∧ d.depth ≤ 60 ∧ d.shown.length ≤ sizeLine
def rRepr (K : PySem.W.Frag) : List V → Hp → VK → Prop := fun xs H Q => ∃ v d, xs = [v] ∧ Dp K H v d ∧ Shows d ∧ Q (.str d.shown) H
theorem call_repr {X : Cx} (hgd : X.A.guards = some []) (hu : X.A.units + 64 < cLine) : CallR X (.builtin "repr") (rRepr X.K) := by
  intro pins s σ H xs us Q I r h
  obtain ⟨v, d, rfl, hd, ⟨h1, h2, h3⟩, q⟩ := h
  obtain ⟨u, rfl, ru⟩ := vals1 r
  have hn := dp_nodict d v hd
  obtain ⟨as, rd⟩ := Dp.reads I d v u hd ru
  cases hd with
  | non =>
    cases rd
    refine PySem.P.repr_of_none ?_
    simp only [PyData.shown] at q
    exact ⟨.str _, H, I.tok _, ⟨_, rfl⟩, q⟩
  | bl b =>
    cases rd
    refine PySem.P.repr_of_bool ?_
    simp only [PyData.shown] at q
    exact ⟨.str _, H, I.tok _, ⟨_, rfl⟩, q⟩
  | int i =>
    cases rd
    simp only [PyData.showable, decide_eq_true_eq] at h1
    refine PySem.P.repr_of_int h1 ?_
    simp only [PyData.shown] at q
    exact ⟨.str _, H, I.tok _, ⟨_, rfl⟩, q⟩
  | str x =>
    cases rd
    simp only [PyData.shown] at q h3
    exact PySem.P.repr_of_str ⟨.str _, H, I.tok _, ⟨_, rfl⟩, q⟩ h3
  | lst a b =>
    cases ru
    exact repr_of_reads' rd h1 (PyData.noDict_hsm hn) hgd (by omega) (fun _ _ e => e) (fun h' u tk k => ⟨.str _, H, I.kept k, ⟨_, rfl⟩, q⟩) h3
  | tup a b =>
    cases ru
    exact repr_of_reads' rd h1 (PyData.noDict_hsm hn) hgd (by omega) (fun _ _ e => e) (fun h' u tk k => ⟨.str _, H, I.kept k, ⟨_, rfl⟩, q⟩) h3
end Z

/-! defs called in an except suite with the caught error; isinstance and fields of it. -/
namespace Z
open PySem PySem.Spec PyProof.Rows L2
abbrev Pin := Addr × Obj
/-- one call of a def while p's error is handled -/
theorem run_hot {CX : CXT} {P : Program} {w : World} {K : PySem.W.Frag} {mg : Str → Option Value} {base : Heap} {k : Nat} {f : Addr} {name qual : Str} {params : Arguments} {body : List Stmt} {scope : Scope} {dV kV doc pm cdv ct oc : Value} {an od : Option Addr}
    {osl : Array (Option Value)} {N ps : List Str} (lk : K.lookup f = some ⟨oc, od, .func (PySem.W.fnOf name qual params body scope dV kV doc pm an cdv ct), osl⟩) (hcd : PySem.W.codeIn K cdv qual = true) (S : FnScope N ps scope)
    {A : Around} {outer : List Env} {s : Shared} {H : Hp} {args : Args} {us : List Value} {vs : List V} {Q : VK} {E : XK} {p : Pin} (hr : L2H.RoomH (k + 1) A) (hp : L2H.PinOk outer H s p) (e0 : Env0 P w K mg base A outer s H)
    (hb : BindsTo s (PySem.W.fnOf name qual params body scope dV kV doc pm an cdv ct) args (ps.zip us)) (r : Vals vs us) (hl : vs.length = ps.length)
    (hbody : L2H.RoomH k (A.deeper (envOfC qual scope s.heap.objs.size f cdv)) → ∃ t, PSs (L2H.cxH CX P w K mg base N qual scope f cdv A outer s H E p) body t ∧ t { nx := fun _ H' => Q .non H', rt := Q } (L2.start N vs) H) :
    codeAny (model P w) A (.call (.ref f) args) (CR CX outer P w H s Q E) s := by
  have hin : K.In s.heap := e0.mod.kin.keeps fun b o e => (e0.bs b o e).1
  have hlim : s.heap.NoLimit := e0.mod.nolimit.keeps fun b o e => (e0.bs b o e).1
  refine codeAny_call_function hr.depth (hin _ _ lk) rfl S.co S.gen rfl (PySem.W.codeRec_of hin hcd) (hb _ _ _ _ ?_)
  refine wpAny_newFunctionEnv_cells S.kind (fun y hy => ?_) fun env he s1 x => ?_
  · obtain ⟨n, v⟩ := y
    rcases S.par n (List.of_mem_zip hy).1 with q | q
    · exact .inl q
    · exact .inr ⟨q, PySem.W.cellsFrom_some _ _ _ (.inl q)⟩
  · subst he
    refine ⟨hlim.keeps x.toInCall.keep, codeAny_func ?_⟩
    obtain ⟨t, ht, hq⟩ := hbody (hr.deeper _)
    refine wpAny_mono (ht.run [] s1 (L2.start N vs) H _ (L2H.inv_startH S hp e0 hl r x) hq) (fun fl s' hs => ?_) fun e s' hs => hs
    cases fl with
    | ret u =>
      obtain ⟨v, σ', H', J, rv, z⟩ := hs
      exact ⟨v, H', J.os, J.bare, J.base, J.hok, rv, z⟩
    | next =>
      obtain ⟨σ', H', J, z⟩ := hs
      exact ⟨V.non, H', J.os, J.bare, J.base, J.hok, rfl, z⟩
    | brk =>
      obtain ⟨_, _, _, z⟩ := hs
      exact False.elim z
    | cont =>
      obtain ⟨_, _, _, z⟩ := hs
      exact False.elim z
/-- a promise of a def that is called while an error is handled; what it says may speak of the error -/
structure FnE (P : Program) (w : World) (K : PySem.W.Frag) (mg : Str → Option Value) (base : Heap) (k : Nat) (f : Addr) (fd : FuncData) (ps : List Str) (sp : Pin → Sp) : Prop where
  len : ∀ p vs H Q E, sp p vs H Q E → vs.length = ps.length
  run : ∀ (A : Around) (outer : List Env) (s : Shared) (H : Hp) (args : Args) (us : List Value) (vs : List V) (Q : VK) (E : XK) (p : Pin), A.guards = some [] → L2H.Hot1 A p → L2H.RoomH k A → L2H.PinOk outer H s p → Env0 P w K mg base A outer s H → BindsTo s fd args (ps.zip us) → Vals vs us → sp p vs H Q E →
    codeAny (model P w) A (.call (.ref f) args) (CR (L2N.CX P w) outer P w H s Q E) s
structure CalE (P : Program) (w : World) (K : PySem.W.Frag) (mg : Str → Option Value) (base : Heap) (k : Nat) (x : Str) (ps : List Str) (sp : Pin → Sp) : Prop where
  ex : ∃ f fd, mg x = some (.ref f) ∧ PySem.W.keepIn K (.ref f) = true ∧ Binds K fd ps [] ∧ FnE P w K mg base k f fd ps sp
abbrev BodyE (P : Program) (w : World) (K : PySem.W.Frag) (mg : Str → Option Value) (base : Heap) (k : Nat) (q : Str) (N : List Str) (st : Stmt) (sp : Pin → Sp) : Prop :=
  ∀ (f : Addr) (cdv : Value) (A : Around) (outer : List Env) (s : Shared) (H : Hp) (vs : List V) (Q : VK) (E : XK) (p : Pin), A.guards = some [] → L2H.Hot1 A p → L2H.RoomH k (A.deeper (envOfC q (defScope st) s.heap.objs.size f cdv)) → sp p vs H Q E →
    ∃ t, PSs (L2H.cxH (L2N.CX P w) P w K mg base N q (defScope st) f cdv A outer s H E p).nox (defBody st) t ∧ t { nx := fun _ H' => Q .non H', rt := Q } (L2.start N vs) H
theorem Df.calE {P : Program} {w : World} {K : PySem.W.Frag} {mg : Str → Option Value} {base : Heap} {x : Str} {st : Stmt} {N ps : List Str} {k : Nat} {sp : Pin → Sp} (D : Df K mg x st) (S : FnScope N ps (defScope st)) (hb : Bnd x x st ps) (len : ∀ p vs H Q E, sp p vs H Q E → vs.length = ps.length)
    (body : BodyE P w K mg base k x N st sp) : CalE P w K mg base (k + 1) x ps sp := by
  obtain ⟨f, fd, hm, F⟩ := D.ex
  refine ⟨f, fd, hm, F.kp, F.bindsN hb, len, fun A outer s H args us vs Q E p hgd hot hr hp e0 hb2 r hsp => ?_⟩
  obtain ⟨oc, od, dV, kV, doc, pm, an, cdv, ct, osl, rfl, lk, hcd, _, _⟩ := F.ex
  refine run_hot lk hcd S hr hp e0 hb2 r (len _ _ _ _ _ hsp) fun hr2 => ?_
  obtain ⟨t, h1, h2⟩ := body f cdv A outer s H vs Q E p hgd hot hr2 hsp
  exact ⟨t, h1.nox, h2⟩
section
variable {X : Cx} {k j : Nat} {x : Str} {ps : List Str} {sp : Pin → Sp} {e : Expr} {es : List Expr} {t : TA} {q pos : Pos} {p : Pin}
theorem run_fnE {f : Addr} {fd : FuncData} {pins : List (Addr × Obj)} {s : Shared} {σ : L2.St} {H : Hp} {us : List Value} {vs : List V} {Q : VK} (F : FnE X.prog X.w X.K X.mg X.base k f fd ps sp) (hgd : X.A.guards = some []) (hp : p ∈ X.pn) (hot : L2H.Hot1 X.A p) (hb : Binds X.K fd ps []) (hr : L2H.RoomH k X.A)
    (I : L2.Inv X pins σ H s) (r : Vals vs us) (z : sp p vs H Q E0) : wpAny (model X.prog X.w) X.A (call (.ref f) us) (EP X pins σ Q) X.xe s := by
  have hl : us.length = ps.length := by rw [← r.length]; exact F.len _ _ _ _ _ z
  have hb2 := hb s us I.kIn (by rw [List.append_nil]; exact hl)
  rw [List.append_nil] at hb2
  have P1 := I.pin p (List.mem_append_left _ hp)
  have hpin : L2H.PinOk X.stack H s p := ⟨P1.1, P1.2.1, fun hm => (List.mem_cons.mp (I.stkSub p.1 hm)).elim P1.2.2.1 P1.2.2.2.1, P1.2.2.2.2⟩
  refine wpAny_call (codeAny_mono (F.run X.A X.stack s H ⟨us, []⟩ us vs _ E0 p hgd hot hr hpin I.env0 hb2 r z) fun r s' hq => ?_)
  cases r with
  | error er => exact (cx_no hq).elim
  | ok fl =>
    cases fl with
    | ret u => exact I.after hq
    | next => exact False.elim hq
    | brk => exact False.elim hq
    | cont => exact False.elim hq
def tCallE (sp : Pin → Sp) (p : Pin) (t : TA) : TE := fun σ H Q => t σ H fun vs H1 => sp p vs H1 Q E0
theorem pe_calE (c : CalE X.prog X.w X.K X.mg X.base k x ps sp) (hgd : X.A.guards = some []) (hp : p ∈ X.pn) (hot : L2H.Hot1 X.A p) (hr : L2H.RoomH j X.A) (hkj : k ≤ j) (hg : Gl X x) (ha : PA X (e :: es) t) (hdb : (x == ("__debug__" : Str)) = false := by decide)
    (he : starEach (e :: es) X.env = (false, eval e X.env) :: starEach es X.env := by rfl) (hpl : (backTo pos (starEach es X.env)).any (·.1) = false := by rfl) : PE X (.Call (.Name x q) (e :: es) [] pos) (tCallE sp p t) := by
  obtain ⟨f, fd, hm, hk, hb, F⟩ := c.ex
  refine ⟨fun pins s σ H Q I h => ?_⟩
  refine wpAny_Call_Name_kw (ld_glob I hg hm ?_ hdb)
  refine PySem.W.callWith_K (h₀ := X.base) I.ok.mod.kin hk (thn (ha.run pos pins s σ H _ I h) fun us s1 ⟨vs, H1, I1, r, z⟩ => ⟨I1.kIn, ?_⟩) he hpl
  exact run_fnE F hgd hp hot hb (hr.mono hkj) I1 r z
end
/-! ### the error itself -/
/-- what a class of errors says, so that its instances are asked rightly -/
structure ErK (K : PySem.W.Frag) (D : Addr) : Prop where
  cl : (PySem.W.clsIn K D).isSome = true
  ga : PySem.W.findIn K (.ref D) "__getattribute__" = some (some (.builtin "BaseException.__getattribute__"))
  gt : PySem.W.findIn K (.ref D) "__getattr__" = some none
  sub : PySem.W.subIn K (.ref D) (.type "BaseException") = some true
  dc : PySem.W.hasDictIn K D = true
  ca : PySem.W.findIn K (.ref D) "__class__" = some (some (.builtin "object.__class__"))
  cg : PySem.W.specialIn K (.builtin "object.__class__") "__get__" = some (some (.builtin "getset_descriptor.__get__"))
  ct : PySem.W.takesIn K (.builtin "object.__class__") = some true
  mo : PySem.W.mroIn K D (.type "object") = some true
/-- the error at p is of the class D; its fields are fs, or it has no dict -/
structure ErAt (D : Addr) (d : Option Addr) (p : Pin) : Prop where
  z : Zc (.ref D) d p.2
  f : ∃ vs, p.2.data = .fields vs
def ErFs (H : Hp) (d : Option Addr) (fs : List (Str × V)) : Prop := (d = none ∧ fs = []) ∨ ∃ dd, d = some dd ∧ H dd = some (.xd fs)
section
variable {X : Cx} {D : Addr} {d : Option Addr} {p : Pin}
theorem inst_of {pins : List (Addr × Obj)} {σ : L2.St} {H : Hp} {s : Shared} {fs : List (Str × V)} (I : L2.Inv X pins σ H s) (hp : p ∈ X.pn) (hz : ErAt D d p) (hf : ErFs H d fs) :
    ∃ od : Option Obj, PySem.W.InstAt s.heap p.1 p.2 D od := by
  obtain ⟨hget, _⟩ := I.pin p (List.mem_append_left _ hp)
  obtain ⟨vs, hv⟩ := hz.f
  have hn : PySem.W.notCls p.2 = true := by
    unfold PySem.W.notCls
    rw [hv] <;> rfl
  rcases hf with ⟨rfl, _⟩ | ⟨dd, rfl, hd⟩
  · refine ⟨none, hget, hz.z.1, hn, ?_⟩
    rw [hz.z.2]
    trivial
  · have hx : ObjOk X.prog X.w H s.heap dd (.xd fs) := I.hok dd _ hd
    obtain ⟨mA, hns, hr⟩ := hx
    obtain ⟨od, ho, hl⟩ := lookIn_ns hns
    refine ⟨some od, hget, hz.z.1, hn, ?_⟩
    rw [hz.z.2]
    exact ho
/-- isinstance(e, c) -/
def rIsP (K : PySem.W.Frag) (D : Addr) (d : Option Addr) (p : Pin) : List V → Hp → VK → Prop := fun xs H Q => ∃ (c : V) (cv : Value) (b : Bool) (fs : List (Str × V)), xs = [.ref p.1, c] ∧ (∀ u, RelV c u → u = cv) ∧ ErFs H d fs ∧ PySem.W.kitOne K (.ref D) cv = some b ∧ Q (.bl b) H
theorem call_isP (hp : p ∈ X.pn) (C : ErK X.K D) (hz : ErAt D d p) : CallR X (.builtin "isinstance") (rIsP X.K D d p) := by
  intro pins s σ H xs us Q I r h
  obtain ⟨c, cv, b, fs, rfl, hcv, hf, e, q⟩ := h
  cases r with
  | cons rx rr =>
    cases rr with
    | cons rt rr =>
      cases rr
      cases rx
      have ec := hcv _ rt
      subst ec
      obtain ⟨od, J⟩ := inst_of I hp hz hf
      exact PySem.W.kia_one (PySem.W.kitx_exc C.cl C.ga C.gt C.sub C.ca C.cg C.ct C.mo) I.kIn J e (fun z => nomatch z) fun tk => ⟨.bl b, H, I.kept (t' := tk) fun _ _ z => z, rfl, q⟩
/-- e.f -/
def tFldP (K : PySem.W.Frag) (D : Addr) (d : Option Addr) (p : Pin) (f : Str) (te : TE) : TE := fun σ H Q => te σ H fun x H1 => x = .ref p.1 ∧ ∃ (dd : Addr) (fs : List (Str × V)) (v : V), d = some dd ∧ H1 dd = some (.xd fs) ∧ fs.lookup f = some v ∧ PySem.W.findIn K (.ref D) f = some none ∧ Q v H1
theorem pe_fldP {e : Expr} {te : TE} {f : Str} {pos : Pos} (hp : p ∈ X.pn) (C : ErK X.K D) (hz : ErAt D d p) (he : PE X e te) (hb : attributeBase e f X.env (eval e X.env) = eval e X.env := by rfl) : PE X (.Attribute e f pos) (tFldP X.K D d p f te) := by
  refine ⟨fun pins s σ H Q I h => ?_⟩
  refine attr_of hb (thn (he.run pins s σ H _ I h) fun u s1 hh => ?_)
  obtain ⟨x, H1, I1, rx, ex, dd, fs, v, ed, ea, l, hno, q⟩ := hh
  subst ex ed
  cases rx
  obtain ⟨hget, _⟩ := I1.pin p (List.mem_append_left _ hp)
  obtain ⟨vs, hv⟩ := hz.f
  have hn : PySem.W.notCls p.2 = true := by
    unfold PySem.W.notCls
    rw [hv] <;> rfl
  have hx : ObjOk X.prog X.w H1 s1.heap dd (.xd fs) := I1.hok dd _ ea
  obtain ⟨mA, hns, hr⟩ := hx
  obtain ⟨od, ho, hl⟩ := lookIn_ns hns
  obtain ⟨u, hu, ru⟩ := RelO.some_of (v := v) (o := mA f) (by rw [← l]; exact hr f)
  have J : PySem.W.InstAt s1.heap p.1 p.2 D (some od) := ⟨hget, hz.z.1, hn, by rw [hz.z.2]; exact ho⟩
  exact HandSPX.exc_get I1.kIn J C.ga C.gt C.sub (PySem.W.findObj_own C.dc hno rfl (by rw [hl, hu])) (handed_of ru) ⟨v, H1, I1.tok _, ru, q⟩
end
end Z

/-! try: .. except (X, Y, Z) as n: .., own classes that take all that is let out. -/
namespace Z
open PySem PySem.Spec PyProof.Rows L2
/-- the suite's wish: what is let out belongs to one of the classes -/
def wAs3 (K : PySem.W.Frag) (cs : List Value) (i : Nat) (ts : Pin → Value → Option Addr → TS) (D : Ends) : WX := fun cls d σ H =>
  PySem.W.exmAny K cls cs = some true ∧ ∀ p : Pin, H p.1 = none → L2N.Zn cls d p.2 → (∃ vs, p.2.data = .fields vs) →
    ts p cls d { nx := fun σ' H' => D.nx (σ'.set i none) H', rt := D.rt, bk := fun σ' H' => D.bk (σ'.set i none) H', ct := fun σ' H' => D.ct (σ'.set i none) H' } (σ.set i (some (.ref p.1))) H
theorem flying_keeps {B h h' : Heap} {l : List Env} {a : Addr} {Z : Obj → Prop} (k : ∀ b o, h.get? b = some o → h'.get? b = some o) (x : HandSPX.FlyingZ B l a Z h) : HandSPX.FlyingZ B l a Z h' := by
  obtain ⟨x1, x2, x3, oe, vs, T, oT, ts, y1, y2, y3, y4, y5, y6, y7, y8, y9⟩ := x
  exact ⟨fun b o e => k b o (x1 b o e), x2, Heap.FunFrames.of_keeps (fun b o e _ => ⟨o, k b o e, rfl⟩) x3, oe, vs, T, oT, ts, k _ _ y1, y2, y3, y4, y5, y6, k _ _ y7, y8, y9⟩
section
variable {X : Cx} {x1 x2 x3 n : Str} {C1 C2 C3 : Addr} {i : Nat} {body suite : List Stmt} {b₀ : Stmt} {q1 q2 q3 tp pos pos' : Pos} {tx} {tb : WX → TS} {ts : Pin → Value → Option Addr → TS}
theorem ps_try_as3 (hs : X.stack = X.env :: X.outer) (hf : X.env.frame = some X.env.locals) (hN : X.N.Nodup) (hi : X.N[i]? = some n) (hln : X.env.kindOf n = some .local)
    (g1 : Gl X x1) (g2 : Gl X x2) (g3 : Gl X x3) (m1 : X.mg x1 = some (.ref C1)) (m2 : X.mg x2 = some (.ref C2)) (m3 : X.mg x3 = some (.ref C3))
    (hb : ∀ (W : WX) (pn : List (Addr × Obj)) (xe : Value → Shared → Prop), L2N.Takes (X.tr pn xe) W → PassesOwn (model X.prog X.w) X.A X.env xe → PSs (X.tr pn xe) body (tb W))
    (hsu : ∀ (p : Pin) (cls : Value) (d : Option Addr) (pn : List (Addr × Obj)), L2N.Zn cls d p.2 → (∃ vs, p.2.data = .fields vs) → PSs (X.suite p.1 (p :: pn)) (b₀ :: suite) (ts p cls d))
    (d1 : (x1 == ("__debug__" : Str)) = false := by decide) (d2 : (x2 == ("__debug__" : Str)) = false := by decide) (d3 : (x3 == ("__debug__" : Str)) = false := by decide)
    (hst : ∀ env : Env, starEach [Expr.Name x1 q1, .Name x2 q2, .Name x3 q3] env = [(false, eval (.Name x1 q1) env), (false, eval (.Name x2 q2) env), (false, eval (.Name x3 q3) env)] := by intro env; rfl) :
    PS X (.Try body [.ExceptHandler (some (.Tuple [.Name x1 q1, .Name x2 q2, .Name x3 q3] tx tp)) (some n) (b₀ :: suite) pos'] [] [] pos) (fun D σ H => tb (wAs3 X.K [.ref C1, .ref C2, .ref C3] i ts D) D σ H) := by
  refine ⟨fun pins s σ H D I h => ?_⟩
  have ok := I.ok
  have hfr : X.A.frames = some (X.env :: X.outer) := by rw [ok.frames, hs]
  refine wpAny_Try_except ?_
  refine wpAny_mono ((hb (wAs3 X.K [.ref C1, .ref C2, .ref C3] i ts D) (X.pn ++ pins) (fun e s₁ => wpAny (model X.prog X.w) X.A (noteFrame e X.env) (fun _ s₂ => wpAny (model X.prog X.w) X.A (setFlight e none) (fun _ s₃ =>
    wpAny (model X.prog X.w) X.A (handleBy e X.env [.ExceptHandler (some (.Tuple [.Name x1 q1, .Name x2 q2, .Name x3 q3] tx tp)) (some n) (b₀ :: suite) pos']) (SP X pins D) X.xe s₃) X.xe s₂) X.xe s₁) (fun u s' xx => ?_) PassesOwn.looking).run [] s σ H D (I.toTry _) h) (fun f s1 hsp => ?_) (fun e s1 he => he)
  · obtain ⟨a, B, sI, pins', σ', H', cls, d, rfl, J', nb, up, sky, na, os, ag, hcl, hyes⟩ := xx
    have J : Inv X pins σ' H' sI := J'.ofTry ok
    have sky' : Sky B (X.env :: X.outer) a (L2N.Zn cls d) X.env.locals s'.heap := by rw [← hs]; exact sky
    show wpAny (model X.prog X.w) X.A (noteFrame (.ref a) X.env) _ _ _
    refine L2N.Sky.land L2N.Zn.steady hfr hf sky' fun h3 fl3 up3 => ?_
    have J3 : Inv X pins σ' H' { s' with heap := h3 } := J.landed nb fl3.1 (up.trans up3) os ag
    obtain ⟨oe3, vs3, he3, hz3, hd3⟩ := fl3.there
    have notFr : ∀ {h : Heap} {o : Obj} {vs : Array Value}, h.FunFrames B (X.env :: X.outer) → h.get? a = some o → o.data = .fields vs → a ∉ frs (X.env :: X.outer) := fun {h o vs} ff e dd hm => by
      obtain ⟨_, o2, e2, hnf⟩ := ff.mem hm
      rw [e] at e2
      cases e2
      exact hnf _ dd
    have nfr := notFr fl3.2.2.1 he3 hd3
    have nL : a ≠ X.env.locals := fun z => nfr (List.mem_filterMap.mpr ⟨X.env, List.mem_cons_self, by rw [hf, z]⟩)
    have nF : a ∉ X.fs := fun hm => by
      obtain ⟨e, he, q⟩ := List.mem_filterMap.mp hm
      exact nfr (List.mem_filterMap.mpr ⟨e, List.mem_cons_of_mem _ he, q⟩)
    have S3 := J3.suite he3 hd3 na nL nF
    refine wpAny_handleBy_cons (codeAny_handlers_test ?_) (by intro q; cases q)
    -- the tuple of the classes
    refine wpAny_Tuple_spliced ?_
    rw [hst]
    show wpAny (model X.prog X.w) (X.A.mark (some (.ref a))) (spliced [(false, _), (false, _), (false, _)]) _ _ _
    refine Calls.spliced_cons (ld_glob (X := X.suite a ((a, oe3) :: (X.pn ++ pins))) S3 g1 m1 ?_ d1)
    refine Calls.spliced_cons (ld_glob (X := X.suite a ((a, oe3) :: (X.pn ++ pins))) S3 g2 m2 ?_ d2)
    refine Calls.spliced_cons (ld_glob (X := X.suite a ((a, oe3) :: (X.pn ++ pins))) S3 g3 m3 ?_ d3)
    refine Calls.spliced_nil ⟨by show 3 ≤ sizeLine; decide, ?_⟩
    have kp : ∀ b o, h3.get? b = some o → (h3.push { cls := .type "tuple", data := .seq [Value.ref C1, .ref C2, .ref C3].toArray }).get? b = some o := fun b o e => Heap.get?_push_of_some _ e
    have htp : (h3.push { cls := .type "tuple", data := .seq [Value.ref C1, .ref C2, .ref C3].toArray }).get? h3.objs.size = some { cls := .type "tuple", data := .seq [Value.ref C1, .ref C2, .ref C3].toArray } := Heap.get?_push_size _ rfl
    have fl5 := flying_keeps kp fl3
    have up5 : s'.heap.UpToSlots (h3.push { cls := .type "tuple", data := .seq [Value.ref C1, .ref C2, .ref C3].toArray }) := up3.trans (Heap.UpToSlots.of_keeps kp)
    show wpAny _ _ (excMatches (.ref a) (.ref h3.objs.size)) _ _ { s' with heap := h3.push { cls := .type "tuple", data := .seq [Value.ref C1, .ref C2, .ref C3].toArray } }
    generalize h3.push { cls := .type "tuple", data := .seq [Value.ref C1, .ref C2, .ref C3].toArray } = h5 at kp htp fl5 up5
    have J5 : Inv X pins σ' H' { s' with heap := h5 } := J.landed nb fl5.1 (up.trans up5) os ag
    have LT : PySem.W.Looks (model X.prog X.w) h5 (typeOf (.ref a)) cls := fun A Q E s k q => wpAny_typeOf_ref (k _ _ (kp _ _ he3)) (by rw [hz3.1]; exact q)
    refine (PySem.W.exm_tup3 (M := model X.prog X.w) J5.kIn LT htp hcl).here ?_
    refine codeAny_handlers_suite_as ?_
    refine HandSPX.lands_againZ fl5 fun h4 fl4 up4 => ?_
    have J4 : Inv X pins σ' H' { s' with heap := h4 } := J.landed nb fl4.1 ((up.trans up5).trans up4) os ag
    obtain ⟨oe4, vs4, he4, hz4, hd4⟩ := fl4.there
    have S4 := J4.suite he4 hd4 na nL nF
    refine store_ok (X := X.suite a ((a, oe4) :: (X.pn ++ pins))) (v := .ref a) S4 hN hi (.inl hln) rfl (fun s5 S5 => ?_) (.inr hln)
    refine wpAny_mono ((hsu (a, oe4) cls d (X.pn ++ pins) hz4 ⟨_, hd4⟩).run [] s5 _ H' _ S5 (hyes (a, oe4) na hz4 ⟨_, hd4⟩)) (fun f s6 hsp => ?_) (fun _ _ z => False.elim z)
    have end_ : ∀ {σ6 : L2.St} {H6 : Hp} {Q : Shared → Prop}, Inv (X.suite a ((a, oe4) :: (X.pn ++ pins))) [] σ6 H6 s6 → (∀ s7, Inv X pins (σ6.set i none) H6 s7 → Q s7) →
        wpAny (model X.prog X.w) X.A (do bindName X.env n .none; unbindBehindTheSuite X.env n pos') (fun _ s7 => Q s7) X.xe s6 := fun {σ6 H6 Q} S6 hq => gone_ok (S6.unsuite ok) hN hi hln hq
    cases f with
    | next =>
      obtain ⟨σ6, H6, S6, z⟩ := hsp
      exact end_ S6 fun s7 J7 => ⟨_, _, J7, z⟩
    | brk =>
      obtain ⟨σ6, H6, S6, z⟩ := hsp
      exact end_ S6 fun s7 J7 => ⟨_, _, J7, z⟩
    | cont =>
      obtain ⟨σ6, H6, S6, z⟩ := hsp
      exact end_ S6 fun s7 J7 => ⟨_, _, J7, z⟩
    | ret u =>
      obtain ⟨v6, σ6, H6, S6, r6, z⟩ := hsp
      exact end_ S6 fun s7 J7 => ⟨_, _, _, J7, r6, z⟩
  · cases f with
    | next =>
      obtain ⟨σ', H', J', z⟩ := hsp
      exact wpAny_execs_nil ⟨σ', H', J'.ofTry ok, z⟩
    | brk =>
      obtain ⟨σ', H', J', z⟩ := hsp
      exact ⟨σ', H', J'.ofTry ok, z⟩
    | cont =>
      obtain ⟨σ', H', J', z⟩ := hsp
      exact ⟨σ', H', J'.ofTry ok, z⟩
    | ret u =>
      obtain ⟨v, σ', H', J', r, z⟩ := hsp
      exact ⟨v, σ', H', J'.ofTry ok, r, z⟩
end
end Z

/-! l.count(b), l a list of truth values. -/
theorem L2H.RoomH.units {k : Nat} {A : PySem.Around} (r : L2H.RoomH k A) : A.units + 64 < PySem.cLine := by
  have := r.un
  omega
namespace Z
open PySem PySem.Spec PyProof.Rows L2
theorem dp_bls {K : PySem.W.Frag} {H : Hp} (bs : List Bool) : DpAll K H (bs.map V.bl) (bs.map PyData.bool) := by
  induction bs with
  | nil => exact .nil
  | cons b bs ih => exact .cons (.bl b) ih
def rCntB (K : PySem.W.Frag) : V → List V → Hp → VK → Prop := fun x xs H Q => ∃ (p : Addr) (bs : List Bool) (k : Bool), x = .ref p ∧ xs = [.bl k] ∧ SqL K H p (bs.map V.bl) ∧ Q (.int (bs.count k : Nat)) H
theorem plain_bls (bs : List Bool) : PyData.plainAll (bs.map PyData.bool) = true := by
  induction bs with
  | nil => rfl
  | cons b bs ih => simp only [List.map_cons, PyData.plainAll, PyData.plain, ih, Bool.and_self]
theorem depth_bls (bs : List Bool) : PyData.depthAll (bs.map PyData.bool) = 0 := by
  induction bs with
  | nil => rfl
  | cons b bs ih => simp [PyData.depthAll, PyData.depth, ih]
theorem mt_countB {X : Cx} (hu : X.A.units + 64 < cLine) : MtR X "list.count" (rCntB X.K) := by
  intro pins s σ H x xs v us Q I rx rxs h
  obtain ⟨p, bs, k, rfl, rfl, hs, q⟩ := h
  cases rx
  cases rxs with
  | cons ry rt =>
    rename_i uy ut
    cases rt
    cases ry
    obtain ⟨its, rv, ⟨o, n, ho, hc, hdn, hdt⟩, hlen⟩ := I.list hs
    obtain ⟨as, r1⟩ := Dp.readsAll I _ _ its (dp_bls bs) rv
    have hl : s.heap.IsList p its.toArray := ⟨o, ho, hc, n, hdt⟩
    refine SeqAt.count_list_data hl (by simpa using r1) (Reads.bool k) (plain_bls bs) (by simp only [PyData.plain]) (by rw [depth_bls]; simp; omega) ?_
    have e : ((bs.map PyData.bool).countP fun y => PyData.eqv y (.bool k)) = bs.count k := by
      rw [List.countP_map, List.count]
      refine List.countP_congr fun b _ => ?_
      cases b <;> cases k <;> simp [PyData.eqv]
    rw [e]
    exact ⟨.int _, H, I.tok _, ⟨_, rfl⟩, q⟩
end Z

/-! f(lambda: e), f a def that calls what it got within a try: the wish about errors may speak of f's names. -/
namespace Z
open PySem PySem.Spec PyProof.Rows L2 LamX
theorem inv_wish {Y : Cx} {E' : Value → Shared → Prop} {pins : List (Addr × Obj)} {σ : L2.St} {H : Hp} {s : Shared} (I : L2.Inv Y pins σ H s) : L2.Inv (Y.wish E') pins σ H s :=
  Inv.unwish (X := Y.wish E') (E := Y.xe) (show L2.Inv ((Y.wish E').wish Y.xe) pins σ H s from I)
/-- a lambda's context, what it lets out being an exception whose context is None -/
def lamCxN (X : Cx) (A : Around) (outer : List Env) (s : Shared) (H : Hp) (E : XK) (scope : Scope) (f c' : Addr) : Cx :=
  (lamCx X A outer s H E scope f c').wish fun e s' => wpAny (model X.prog X.w) (A.deeper (lamEnv X scope s.heap.objs.size f c')) (leaving (lamEnv X scope s.heap.objs.size f c') e) (fun _ s'' => L2N.CX X.prog X.w outer H s E e s'') (fun e'' s'' => L2N.CX X.prog X.w outer H s E e'' s'') s'
section
variable {X : Cx} {pins : List (Addr × Obj)} {σ : L2.St} {H : Hp} {s : Shared}
theorem pe_actG {CXg : CXT} {Eg : XK} {Ng : List Str} {qg : Str} {sg : Scope} {g f c' : Addr} {cdg pm ctv : Value} {params : Arguments} {body : Expr} {scope : Scope} {k i : Nat} {a : Str} {pn : List (Addr × Obj)} {xe : Value → Shared → Prop} {W : WX} {tb : XK → TE} {p1 p2 : Pos}
    (I : L2.Inv X pins σ H s) (L : LamS X.env.scope scope) (hf : s.heap.get? f = some (PySem.W.kla_obj "<lambda>" (X.env.qual ++ "<lambda>") params body scope (cloFrom X.env.cells scope.names []) pm c' ctv)) (hfn : H f = none) (hfr : f ∉ frs X.stack)
    (hbind : bindArgs (PySem.W.kla_fn "<lambda>" (X.env.qual ++ "<lambda>") params body scope (cloFrom X.env.cells scope.names []) pm (.ref c') ctv) ⟨[], []⟩ = pure [])
    (tk : L2N.Takes ((cxOf CXg X.prog X.w X.K X.mg X.base Ng qg sg g cdg X.A X.stack s H Eg).tr pn xe) W) (hgd : X.A.guards = some []) (hr : Room (k + 1) (X.A.deeper (envOfC qg sg s.heap.objs.size g cdg)))
    (hbody : ∀ (A : Around) (outer : List Env) (s : Shared) (H : Hp) (E : XK), A.guards = some [] → Room k (A.deeper (lamEnv X scope s.heap.objs.size f c')) → PE (lamCxN X A outer s H E scope f c') body (tb E))
    (hN : Ng[i]? = some a) (hv : Vis sg a) (hd : (a == ("__debug__" : Str)) = false := by decide) (hcd : (a == ("__classdict__" : Str)) = false := by decide) :
    PE ((cxOf CXg X.prog X.w X.K X.mg X.base Ng qg sg g cdg X.A X.stack s H Eg).tr pn xe) (.Call (.Name a p1) [] [] p2)
      (fun σZ HZ Q => σZ[i]? = some (some (.ref f)) ∧ HZ c' = some (CodeO c' (X.env.qual ++ "<lambda>")) ∧ ∃ E : XK, (∀ cls d H', E cls d H' → W cls d σZ H') ∧ tb E σ HZ Q) := by
  refine ⟨fun pinsZ sZ σZ HZ Q IZ h => ?_⟩
  obtain ⟨hs, hc, E, hW, ht⟩ := h
  refine wpAny_Call_Name_kw (thn ((pe_var (pos := p1) (i := i) hN hv hd hcd).run pinsZ sZ σZ HZ (fun v H1 => v = .ref f ∧ H1 = HZ) IZ ⟨.ref f, hs, rfl, rfl⟩) fun u s1 ⟨v, H1, I1, r1, q1⟩ => ?_)
  obtain ⟨ev, eH⟩ := q1
  subst ev
  rw [eH] at I1
  cases r1
  have of1 : s1.heap.get? f = some (PySem.W.kla_obj "<lambda>" (X.env.qual ++ "<lambda>") params body scope (cloFrom X.env.cells scope.names []) pm c' ctv) := I1.base.keep f _ hf hfn hfr (fun z => nomatch (show f ∈ ([] : List Addr) from z))
  refine PySem.W.callWith_F0 ⟨_, _, _, _, of1⟩ ?_
  have un : Un (frs X.stack) [] H HZ s.heap s1.heap := I1.base
  obtain ⟨⟨oc, vs, t, hoc, hdc, hvc⟩, _, _⟩ := I1.hok c' _ hc
  have rc : codeAny (model X.prog X.w) (X.A.deeper (envOfC qg sg s.heap.objs.size g cdg)) (.call (.ref f) ⟨[], []⟩) (CR (L2N.CX X.prog X.w) (envOfC qg sg s.heap.objs.size g cdg :: X.stack) X.prog X.w HZ s1 Q E) s1 := by
    refine PySem.W.kla_callFunE hr.depth of1 rfl L.co L.gen rfl ⟨c', oc, vs, t, rfl, hoc, hdc, hvc⟩ ?_
    rw [hbind]
    refine wpAny_pure (wpAny_newFunctionEnv (fun y hy => (L.own y hy).2) (fun y hy => absurd hy (by simp)) (fun h₁ hns hsb => ⟨I1.nolimit.fresh _ hsb, ?_⟩) L.kind)
    show codeAny _ _ (.expr body (lamEnv X scope s1.heap.objs.size f c')) _ _
    have kp : ∀ b o, s1.heap.get? b = some o → h₁.get? b = some o := fun b o e => hsb.extBut b o (Nat.ne_of_lt (Heap.lt_size e)) (Heap.get?_push_of_some _ e)
    have J : L2.Inv (lamCxN X (X.A.deeper (envOfC qg sg s.heap.objs.size g cdg)) (envOfC qg sg s.heap.objs.size g cdg :: X.stack) s1 HZ E scope f c') [] σ HZ { s1 with heap := h₁, toks := s1.toks + ([] : List (Str × Value)).length } :=
      inv_wish (lam_start2 I L I1.env0 hr.hd un hns kp)
    refine PySem.W.kla_codeExpr (wpAny_mono ((hbody (X.A.deeper (envOfC qg sg s.heap.objs.size g cdg)) _ s1 HZ E hgd (hr.deeper _)).run [] _ _ HZ Q J ht) (fun v s' hq => ?_) fun e s' hq => hq)
    obtain ⟨w', H', J', rv, q⟩ := hq
    exact ⟨w', H', J'.os, J'.bare, J'.base, J'.hok, rv, q⟩
  refine wpAny_call (codeAny_mono rc fun r s' hq => ?_)
  cases r with
  | error e => exact tk e s' (L2N.XE.of_call I1 (fun cls d H' h => hW cls d H' h) hq)
  | ok fl =>
    cases fl with
    | ret u => exact I1.after hq
    | next => exact False.elim hq
    | brk => exact False.elim hq
    | cont => exact False.elim hq
end
/-- the def that calls what it got: TT: what it makes of the lambda's reading -/
def GivesG (X : Cx) (Ng : List Str) (x : Str) (sg : Scope) (g : Addr) (cdg : Value) (bg : List Stmt) (a : Str) (q : Str) (TT : (XK → Hp → VK → Prop) → Hp → VK → Prop) : Prop :=
  ∀ (f c' : Addr) (s : Shared) (H : Hp) (Q : VK) (tl : XK → Hp → VK → Prop),
    (∀ (W : WX) (pn : List (Addr × Obj)) (xe : Value → Shared → Prop) (p1 p2 : Pos), L2N.Takes ((cxOf C8.CX0 X.prog X.w X.K X.mg X.base Ng x sg g cdg X.A X.stack s H C8.E0).tr pn xe) W →
      PE ((cxOf C8.CX0 X.prog X.w X.K X.mg X.base Ng x sg g cdg X.A X.stack s H C8.E0).tr pn xe) (.Call (.Name a p1) [] [] p2) (fun σZ HZ Q => σZ[0]? = some (some (.ref f)) ∧ HZ c' = some (CodeO c' q) ∧ ∃ E : XK, (∀ cls d H', E cls d H' → W cls d σZ H') ∧ tl E HZ Q)) →
    H c' = some (CodeO c' q) → TT tl H Q →
    ∃ t, PSs (cxOf C8.CX0 X.prog X.w X.K X.mg X.base Ng x sg g cdg X.A X.stack s H C8.E0).nox bg t ∧ t { nx := fun _ H' => Q .non H', rt := Q } (L2.start Ng [.ref f]) H
section
variable {X : Cx}
/-- x(lambda: body) -/
theorem pe_lamG {T : List (Addr × Str)} {TT : (XK → Hp → VK → Prop) → Hp → VK → Prop} {x a : Str} {g c P : Addr} {k : Nat} {pg : Arguments} {bg : List Stmt} {sg : Scope} {dV kV doc pm cdv ct oc : Value} {an od : Option Addr} {osl : Array (Option Value)} {Ng : List Str}
    {params : Arguments} {body : Expr} {scope : Scope} {t : XK → TE} {p lpos pos : Pos} (hg : Gl X x) (hm : X.mg x = some (.ref g)) (hk : PySem.W.keepIn X.K (.ref g) = true)
    (lk : X.K.lookup g = some ⟨oc, od, .func (PySem.W.fnOf x x pg bg sg dV kV doc pm an cdv ct), osl⟩) (hcg : PySem.W.codeIn X.K cdv x = true) (hb : L2.Binds X.K (PySem.W.fnOf x x pg bg sg dV kV doc pm an cdv ct) [a] []) (Sg : FnScope Ng [a] sg) (hNg : Ng[0]? = some a) (hva : Vis sg a)
    (hG : GivesG X Ng x sg g cdv bg a (X.env.qual ++ "<lambda>") TT) (hgd : X.A.guards = some [])
    (TB : TabB X.base X.mg c P) (hcode : X.env.code = .ref c) (hmT : (P, X.env.qual ++ "<lambda>") ∈ T) (hu : ∀ p ∈ T, p.1 = P → p.2 = X.env.qual ++ "<lambda>") (hr : Room (k + 2) X.A) (L : LamS X.env.scope scope) (hdef : defaultsOf params X.env = ([], []))
    (hbind : ∀ (q : Str) (cl : List (Str × Addr)) (pm cv ctv : Value), bindArgs (PySem.W.kla_fn "<lambda>" q params body scope cl pm cv ctv) ⟨[], []⟩ = pure [])
    (hbody : ∀ (A : Around) (outer : List Env) (s : Shared) (H : Hp) (E : XK) (f c' : Addr), A.guards = some [] → Room k (A.deeper (lamEnv X scope s.heap.objs.size f c')) → PE (lamCxN X A outer s H E scope f c') body (t E))
    (hdb : (x == ("__debug__" : Str)) = false := by decide) (hd : (a == ("__debug__" : Str)) = false := by decide) (hcd : (a == ("__classdict__" : Str)) = false := by decide) :
    PE X (.Call (.Name x p) [.Lambda params body scope lpos] [] pos) (tLam T TT t) := by
  refine ⟨fun pins s σ H Q I h => ?_⟩
  obtain ⟨hT, h⟩ := h
  refine wpAny_Call_Name_kw (ld_glob I hg hm ?_ hdb)
  refine PySem.W.callWith_K (h₀ := X.base) I.ok.mod.kin hk ?_ (by rfl) (by rfl)
  show wpAny _ _ (spliced ((false, eval (.Lambda params body scope lpos) X.env) :: backTo pos (starEach [] X.env))) _ _ s
  refine Calls.spliced_cons (lam_make2 I TB hcode hmT hu hT hdef (L.has I.ok) fun f c' pm' ctv H1 s' I1 eN T1 hf hfn hfr hco => ?_)
  refine Calls.spliced_nil ⟨I1.kIn, ?_⟩
  refine wpAny_call (codeAny_mono (R := CR C8.CX0 X.stack X.prog X.w H1 s' Q C8.E0) ?_ fun r s2 hq => ?_)
  · refine run_ofS (N := Ng) (ps := [a]) (us := [.ref f]) (vs := [.ref f]) lk hcg Sg hr I1.env0 (hb s' [.ref f] I1.kIn rfl) (.cons rfl .nil) rfl fun hr' => ?_
    obtain ⟨t', ht', hq'⟩ := hG f c' s' H1 Q (fun E H' Q' => t E σ H' Q') (fun W pn xe p1 p2 tk => pe_actG (i := 0) I1 L hf hfn hfr (hbind _ _ _ _ _) tk hgd hr' (fun A outer s H E hg2 hr2 => hbody A outer s H E f c' hg2 hr2) hNg hva hd hcd) hco (h H1 eN T1)
    exact ⟨t', ht'.nox, hq'⟩
  · cases r with
    | error e => exact (show False from hq).elim
    | ok fl =>
      cases fl with
      | ret u => exact I1.after hq
      | next => exact False.elim hq
      | brk => exact False.elim hq
      | cont => exact False.elim hq
end
end Z

/-! calls of what may raise, where it may be let out. -/
namespace Z
open PySem PySem.Spec PyProof.Rows L2
section
variable {X : Cx} {E : XK} {k j : Nat} {x m : Str} {C : Addr} {ps : List Str} {sp : Sp} {e o : Expr} {es : List Expr} {t : TA} {to : TE} {p pos apos : Pos} {dv : V}
theorem passX (tk : L2N.Takes X fun cls d _ H => E cls d H) : Passes (L2N.CX X.prog X.w) X E := L2N.passes_call tk fun _ _ _ _ h => h
theorem pe_calX (hx : Passes (L2N.CX X.prog X.w) X E) (c : Cal X.prog X.w X.K X.mg X.base k x ps sp) (hr : Room j X.A) (hkj : k ≤ j) (hg : Gl X x) (ha : PA X (e :: es) t) (hdb : (x == ("__debug__" : Str)) = false := by decide)
    (he : starEach (e :: es) X.env = (false, eval e X.env) :: starEach es X.env := by rfl) (hpl : (backTo pos (starEach es X.env)).any (·.1) = false := by rfl) : PE X (.Call (.Name x p) (e :: es) [] pos) (tCall sp [] E t) := by
  obtain ⟨f, fd, hm, hk, hb, F⟩ := c.ex
  exact pe_call F (hr.mono hkj) hg hm hk hb .nil hx ha hdb he hpl
theorem pe_mkX (hx : Passes (L2N.CX X.prog X.w) X E) (c : Mkr X.prog X.w X.K X.mg X.base k x C ps sp) (hr : Room j X.A) (hkj : k + 1 ≤ j) (hg : Gl X x) (ha : PA X (e :: es) t) (hdb : (x == ("__debug__" : Str)) = false := by decide)
    (he : starEach (e :: es) X.env = (false, eval e X.env) :: starEach es X.env := by rfl) (hpl : (backTo pos (starEach es X.env)).any (·.1) = false := by rfl) : PE X (.Call (.Name x p) (e :: es) [] pos) (tMake C sp [] E t) := by
  obtain ⟨f, fd, hm, hk, hb, F⟩ := c.ex
  exact pe_make hk F (hr.mono hkj) hg hm hb .nil hx ha hdb he hpl
theorem pe_mthX {pl : Sem Bool} (hx : Passes (L2N.CX X.prog X.w) X E) (c : Mtd X.prog X.w X.K X.mg X.base k C m ps sp) (hr : Room j X.A) (hkj : k ≤ j) (ho : PE X o to) (ha : PA X (e :: es) t)
    (hst : starEach (e :: es) X.env = (false, eval e X.env) :: starEach es X.env := by rfl) (hpl : (backTo pos (starEach es X.env)).any (·.1) = false := by rfl)
    (ht : eval (.Call (.Attribute o m apos) (e :: es) [] pos) X.env = (do
      let ov ← eval o X.env
      standAt apos.atName
      let (f, first) ← holding [ov] (getMethod ov m pl)
      callWith pos f first (backTo pos (starEach (e :: es) X.env)) (backToKw pos (keywordEach [] X.env))) := by rfl) : PE X (.Call (.Attribute o m apos) (e :: es) [] pos) (tMeth C m sp [] E to t) := by
  obtain ⟨f, fd, hc, hm, hb, F⟩ := c.ex
  exact pe_meth ho hc hm F (hr.mono hkj) hb .nil hx ha hst hpl ht
theorem pe_mth0X {pl : Sem Bool} (hx : Passes (L2N.CX X.prog X.w) X E) (c : Mtd X.prog X.w X.K X.mg X.base k C m ps sp) (hr : Room j X.A) (hkj : k ≤ j) (ho : PE X o to)
    (ht : eval (.Call (.Attribute o m apos) [] [] pos) X.env = (do
      let ov ← eval o X.env
      standAt apos.atName
      let (f, first) ← holding [ov] (getMethod ov m pl)
      callWith pos f first (backTo pos (starEach [] X.env)) (backToKw pos (keywordEach [] X.env))) := by rfl) : PE X (.Call (.Attribute o m apos) [] [] pos) (tMeth C m sp [] E to tNil) := by
  obtain ⟨f, fd, hc, hm, hb, F⟩ := c.ex
  exact pe_meth0 ho hc hm F (hr.mono hkj) hb .nil hx ht
theorem pe_mth0 {pl : Sem Bool} (c : Mtd X.prog X.w X.K X.mg X.base k C m ps sp) (hr : Room j X.A) (hkj : k ≤ j) (ho : PE X o to)
    (ht : eval (.Call (.Attribute o m apos) [] [] pos) X.env = (do
      let ov ← eval o X.env
      standAt apos.atName
      let (f, first) ← holding [ov] (getMethod ov m pl)
      callWith pos f first (backTo pos (starEach [] X.env)) (backToKw pos (keywordEach [] X.env))) := by rfl) : PE X (.Call (.Attribute o m apos) [] [] pos) (tMeth C m sp [] E0 to tNil) := by
  obtain ⟨f, fd, hc, hm, hb, F⟩ := c.ex
  exact pe_meth0 ho hc hm F (hr.mono hkj) hb .nil Z.passN ht
/-- raised -/
abbrev raised1 (C : Addr) (f : Str) (v : V) (H : Hp) (E : XK) : Prop := ∀ d H', Ex H H' → H' d = some (.xd [(f, v)]) → E (.ref C) (some d) H'
end
section
variable {P : Program} {w : World} {K : PySem.W.Frag} {mg : Str → Option Value} {base : Heap}
abbrev BodyZ (P : Program) (w : World) (K : PySem.W.Frag) (mg : Str → Option Value) (base : Heap) (k : Nat) (q : Str) (N : List Str) (st : Stmt) (sp : Sp) : Prop :=
  ∀ (f : Addr) (cdv : Value) (A : Around) (outer : List Env) (s : Shared) (H : Hp) (vs : List V) (Q : VK) (E : XK), Room k (A.deeper (envOfC q (defScope st) s.heap.objs.size f cdv)) → sp vs H Q E →
    ∃ t, PSs (cxOf (L2N.CX P w) P w K mg base N q (defScope st) f cdv A outer s H E) (defBody st) t ∧ t { nx := fun _ H' => Q .non H', rt := Q } (start N vs) H
theorem Df.calZ {x : Str} {st : Stmt} {N ps : List Str} {k : Nat} {sp : Sp} (D : Df K mg x st) (S : FnScope N ps (defScope st)) (hb : Bnd x x st ps) (len : ∀ vs H Q E, sp vs H Q E → vs.length = ps.length)
    (body : BodyZ P w K mg base k x N st sp) : Cal P w K mg base (k + 1) x ps sp := by
  obtain ⟨f, fd, hm, F⟩ := D.ex
  exact ⟨f, fd, hm, F.kp, F.bindsN hb, F.ok S len fun cdv A outer s H vs Q E hr h => body f cdv A outer s H vs Q E hr h⟩
theorem Dm.mtdZ {C : Addr} {m q : Str} {st : Stmt} {N ps : List Str} {k : Nat} {sp : Sp} (D : Dm K C m q st) (S : FnScope N ps (defScope st)) (hb : Bnd m q st ps) (len : ∀ vs H Q E, sp vs H Q E → vs.length = ps.length)
    (body : BodyZ P w K mg base k q N st sp) : Mtd P w K mg base (k + 1) C m ps sp := by
  obtain ⟨f, fd, hc, hm, F⟩ := D.ex
  exact ⟨f, fd, hc, hm, F.bindsN hb, F.ok S len fun cdv A outer s H vs Q E hr h => body f cdv A outer s H vs Q E hr h⟩
end
end Z

/-! C() by the default of its one argument; data of any kind. -/
namespace Z
open PySem PySem.Spec PyProof.Rows L2
structure MkD (P : Program) (w : World) (K : PySem.W.Frag) (mg : Str → Option Value) (base : Heap) (k : Nat) (x : Str) (C : Addr) (ps : List Str) (sp : Sp) (dv : V) : Prop where
  ex : ∃ f fd ds, mg x = some (.ref C) ∧ Mk K C f ∧ Binds K fd ps ds ∧ Vals [dv] ds ∧ FnOk P w K mg base (L2N.CX P w) k f fd ps sp
theorem pe_mk0 {X : Cx} {k j : Nat} {x : Str} {C : Addr} {ps : List Str} {sp : Sp} {dv : V} {p pos : Pos} (c : MkD X.prog X.w X.K X.mg X.base k x C ps sp dv) (hr : Room j X.A) (hkj : k + 1 ≤ j) (hg : Gl X x) (hdb : (x == ("__debug__" : Str)) = false := by decide) : PE X (.Call (.Name x p) [] [] pos) (tMake C sp [dv] E0 tNil) := by
  obtain ⟨f, fd, ds, hm, hk, hb, hv, F⟩ := c.ex
  exact pe_make0 hk F (hr.mono hkj) hg hm hb hv Z.passN hdb
theorem tyd_sqL {K : PySem.W.Frag} {H : Hp} {a : Addr} {xs : List V} (h : SqL K H a xs) : Tyd K H (.ref a) .oth := by
  rcases h with (h | ⟨o, h⟩) | h
  · exact tyd_lst h
  · exact ⟨_, .base (.frz h), tyok_lst⟩
  · obtain ⟨o, its, n, h1, h2, _⟩ := h
    exact ⟨_, .kList h1 h2, tyok_lst⟩
mutual
theorem dt_of_dp {K : PySem.W.Frag} {H : Hp} : ∀ (d : PyData) (v : V), Dp K H v d → ∃ e, DT K H v e
  | .none, _, h => by
    cases h
    exact ⟨_, .non⟩
  | .bool b, _, h => by
    cases h
    exact ⟨_, .bl b⟩
  | .int i, _, h => by
    cases h
    exact ⟨_, .int i⟩
  | .str s, _, h => by
    cases h
    exact ⟨_, .str s⟩
  | .list xs, _, h => by
    cases h with
    | lst h1 _ => exact ⟨_, .oth (tyd_sqL h1)⟩
  | .tuple xs, _, h => by
    cases h with
    | tup h1 h2 =>
      obtain ⟨es, h3⟩ := dts_of_dp xs _ h2
      exact ⟨_, .tup h1 h3⟩
  | .dict _, _, h => by cases h
theorem dts_of_dp {K : PySem.W.Frag} {H : Hp} : ∀ (ds : List PyData) (vs : List V), DpAll K H vs ds → ∃ es, DTs K H vs es
  | [], _, h => by
    cases h
    exact ⟨_, .nil⟩
  | d :: ds, _, h => by
    cases h with
    | cons h1 h2 =>
      obtain ⟨e, h3⟩ := dt_of_dp d _ h1
      obtain ⟨es, h4⟩ := dts_of_dp ds _ h2
      exact ⟨_, .cons h3 h4⟩
end
mutual
/-- lists of at most two items -/
def tagL : PyData → Bool
  | .list xs => decide (xs.length ≤ 2) && tagLs xs
  | .tuple xs => tagLs xs
  | _ => true
def tagLs : List PyData → Bool
  | [] => true
  | x :: xs => tagL x && tagLs xs
end
theorem dps_len {K : PySem.W.Frag} {H : Hp} : ∀ (ds : List PyData) (vs : List V), DpAll K H vs ds → vs.length = ds.length
  | [], _, h => by
    cases h
    rfl
  | d :: ds, _, h => by
    cases h with
    | cons h1 h2 => rw [List.length_cons, List.length_cons, dps_len ds _ h2]
mutual
theorem dp_mono {K : PySem.W.Frag} {H H' : Hp} {m : Addr → Prop} (e : Gr m H H') (hm : ∀ a, m a → H a = none ∨ ∃ x d c : Int, H a = some (.lst [.int x, .int d, .int c])) : ∀ (d : PyData) (v : V), tagL d = true → Dp K H v d → Dp K H' v d
  | .none, _, _, h => by
    cases h
    exact .non
  | .bool b, _, _, h => by
    cases h
    exact .bl b
  | .int i, _, _, h => by
    cases h
    exact .int i
  | .str s, _, _, h => by
    cases h
    exact .str s
  | .list xs, _, ht, h => by
    simp only [tagL, Bool.and_eq_true, decide_eq_true_eq] at ht
    cases h with
    | lst h1 h2 =>
      rename_i a ys
      refine .lst ?_ (dps_mono e hm xs ys ht.2 h2)
      have hl := dps_len xs ys h2
      rcases h1 with (h1 | ⟨o, h1⟩) | h1
      · refine .inl (.inl (e.at h1 fun hma => ?_))
        rcases hm a hma with z | ⟨x, d, c, z⟩
        · rw [h1] at z
          cases z
        · rw [h1] at z
          cases z
          simp at hl
          omega
      · exact .inl (.inr ⟨o, e.frz h1⟩)
      · exact .inr h1
  | .tuple xs, _, ht, h => by
    simp only [tagL] at ht
    cases h with
    | tup h1 h2 => exact .tup (e.seqT h1) (dps_mono e hm xs _ ht h2)
  | .dict _, _, _, h => by cases h
theorem dps_mono {K : PySem.W.Frag} {H H' : Hp} {m : Addr → Prop} (e : Gr m H H') (hm : ∀ a, m a → H a = none ∨ ∃ x d c : Int, H a = some (.lst [.int x, .int d, .int c])) : ∀ (ds : List PyData) (vs : List V), tagLs ds = true → DpAll K H vs ds → DpAll K H' vs ds
  | [], _, _, h => by
    cases h
    exact .nil
  | d :: ds, _, ht, h => by
    simp only [tagLs, Bool.and_eq_true] at ht
    cases h with
    | cons h1 h2 => exact .cons (dp_mono e hm d _ ht.1 h1) (dps_mono e hm ds _ ht.2 h2)
end
end Z

/-! a class called with keywords alone. -/
namespace Z
open PySem PySem.Spec PyProof.Rows L2
structure MkK (P : Program) (w : World) (K : PySem.W.Frag) (mg : Str → Option Value) (base : Heap) (k : Nat) (x : Str) (C : Addr) (ps ks : List Str) (sp : Sp) (gV : List V → List V → List V) : Prop where
  ex : ∃ f fd g, mg x = some (.ref C) ∧ Mk K C f ∧ KBn K fd ps 1 ks g gV ∧ FnOk P w K mg base (L2N.CX P w) k f fd ps sp
theorem pe_mkK {X : Cx} {k j : Nat} {x : Str} {C : Addr} {ps ks : List Str} {sp : Sp} {gV : List V → List V → List V} {p pos : Pos} {kws : List Keyword} {tk : TA} (c : MkK X.prog X.w X.K X.mg X.base k x C ps ks sp gV) (hr : Room j X.A) (hkj : k + 1 ≤ j) (hg : Gl X x) (hkw : PK X kws tk)
    (hall : (backToKw pos (keywordEach kws X.env)).all (·.1.isSome) = true := by rfl) (hks : (backToKw pos (keywordEach kws X.env)).filterMap (·.1) = ks := by rfl) (hdb : (x == ("__debug__" : Str)) = false := by decide)
    (hpl : ((backTo pos (starEach [] X.env)).any (·.1) || (backToKw pos (keywordEach kws X.env)).any (·.1.isNone)) = false := by rfl) : PE X (.Call (.Name x p) [] kws pos) (tMakeK C 0 ks.length sp gV E0 tNil tk) := by
  obtain ⟨f, fd, g, hm, hk, hb, F⟩ := c.ex
  exact pe_makeK0 hk F (hr.mono hkj) hg hm hb Z.passN hkw hall hks hdb hpl
end Z

/-! an own method called with keywords alone. -/
namespace Z
open PySem PySem.Spec PyProof.Rows L2
/-- o.m(k = v, ..) -/
def tMethK (C : Addr) (m : Str) (n : Nat) (sp : Sp) (E : XK) (ta : TE) (tk : TA) : TE := fun σ H Q => ta σ H fun x H1 => ∃ a dx fs, x = .ref a ∧ H1 a = some (.ins C dx fs) ∧ fs.lookup m = none ∧ tk σ H1 fun zs H2 => zs.length = n ∧ sp (x :: zs) H2 Q E
theorem kbindsN {K : PySem.W.Frag} {x qual : Str} {params : Arguments} {body : List Stmt} {scope : Scope} {f : Addr} {fd : FuncData} {ps : List Str} (F : FunD K x qual params body scope [] [] f fd) (n : Nat) (ks : List Str)
    (h : ∀ (kV doc pm : Value) (an : Option Addr) (cdv ct : Value) (us ws : List Value), us.length = n → ws.length = ks.length → bindArgs (PySem.W.fnOf x qual params body scope .none kV doc pm an cdv ct) ⟨us, ks.zip ws⟩ = pure (ps.zip (us ++ ws))) :
    KBn K fd ps n ks (fun us ws => us ++ ws) (fun vs zs => vs ++ zs) := by
  obtain ⟨oc, od, dV, kV, doc, pm, an, cdv, ct, osl, rfl, lk, hcd, hD, hK⟩ := F.ex
  rcases hD with ⟨_, rfl⟩ | ⟨e, _⟩
  · exact ⟨fun s us ws _ l1 l2 => .of_eq (h kV doc pm an cdv ct us ws l1 l2), fun r1 r2 => r1.append r2⟩
  · exact absurd rfl e
structure MtK (P : Program) (w : World) (K : PySem.W.Frag) (mg : Str → Option Value) (base : Heap) (k : Nat) (C : Addr) (m : Str) (ps ks : List Str) (sp : Sp) : Prop where
  ex : ∃ f fd, Cls K C ∧ Meth K C m f ∧ KBn K fd ps 1 ks (fun us ws => us ++ ws) (fun vs zs => vs ++ zs) ∧ FnOk P w K mg base (L2N.CX P w) k f fd ps sp
theorem pe_mtKX {X : Cx} {E : XK} {k j : Nat} {C : Addr} {m : Str} {ps ks : List Str} {sp : Sp} {pos apos : Pos} {o : Expr} {kws : List Keyword} {ta : TE} {tk : TA} {pl : Sem Bool} (hx : Passes (L2N.CX X.prog X.w) X E) (c : MtK X.prog X.w X.K X.mg X.base k C m ps ks sp) (hr : Room j X.A) (hkj : k ≤ j) (he : PE X o ta) (hkw : PK X kws tk)
    (hall : (backToKw pos (keywordEach kws X.env)).all (·.1.isSome) = true := by rfl) (hks : (backToKw pos (keywordEach kws X.env)).filterMap (·.1) = ks := by rfl)
    (hpl : ((backTo pos (starEach [] X.env)).any (·.1) || (backToKw pos (keywordEach kws X.env)).any (·.1.isNone)) = false := by rfl)
    (ht : eval (.Call (.Attribute o m apos) [] kws pos) X.env = (do
      let ov ← eval o X.env
      standAt apos.atName
      let (f, first) ← holding [ov] (getMethod ov m pl)
      callWith pos f first (backTo pos (starEach [] X.env)) (backToKw pos (keywordEach kws X.env))) := by rfl) :
    PE X (.Call (.Attribute o m apos) [] kws pos) (tMethK C m ks.length sp E ta tk) := by
  obtain ⟨f, fd, hc, hm, hb, F⟩ := c.ex
  refine ⟨fun pins s σ H Q I h => ?_⟩
  refine PySem.W.methodCall_KW (pl := pl) (thn (he.run pins s σ H _ I h) fun u s1 ⟨x, H1, I1, rx, a, dx, fs, ex, ea, l, q⟩ => ?_) ht
  subst ex
  obtain rfl : u = Value.ref a := rx
  refine getmeth_ok I1 ea hc hm l ?_
  refine PySem.W.callWith_KW0 (first := [.ref a]) (h₀ := X.base) I1.ok.mod.kin hm.kp hall ?_ hpl
  refine thn (hkw.run pos pins s1 σ H1 _ I1 q) fun ws s2 ⟨zs, H2, I2, rz, l2, q2⟩ => ⟨I2.kIn, ?_⟩
  rw [hks]
  exact run_fnN (us := [.ref a]) (vs := [.ref a]) F (hr.mono hkj) hb hx I2 (.cons rfl .nil) rz rfl l2 q2
end Z

/-! an own def called with keywords alone. -/
namespace Z
open PySem PySem.Spec PyProof.Rows L2
/-- f(k = v, ..): gV puts the values in the def's order -/
def tCallKw (n : Nat) (sp : Sp) (gV : List V → List V) (E : XK) (tk : TA) : TE := fun σ H Q => tk σ H fun zs H1 => zs.length = n ∧ sp (gV zs) H1 Q E
structure CalK (P : Program) (w : World) (K : PySem.W.Frag) (mg : Str → Option Value) (base : Heap) (k : Nat) (x : Str) (ps ks : List Str) (sp : Sp) (gV : List V → List V) : Prop where
  ex : ∃ (f : Addr) (fd : FuncData) (g : List Value → List Value), mg x = some (.ref f) ∧ PySem.W.keepIn K (.ref f) = true ∧ KBn K fd ps 0 ks (fun _ ws => g ws) (fun _ zs => gV zs) ∧ FnOk P w K mg base (L2N.CX P w) k f fd ps sp
theorem kbinds0 {K : PySem.W.Frag} {x qual : Str} {params : Arguments} {body : List Stmt} {scope : Scope} {f : Addr} {fd : FuncData} {ps : List Str} (F : FunD K x qual params body scope [] [] f fd) (ks : List Str) (g : List Value → List Value) (gV : List V → List V)
    (h : ∀ (kV doc pm : Value) (an : Option Addr) (cdv ct : Value) (ws : List Value), ws.length = ks.length → bindArgs (PySem.W.fnOf x qual params body scope .none kV doc pm an cdv ct) ⟨[], ks.zip ws⟩ = pure (ps.zip (g ws)))
    (hr : ∀ (zs : List V) (ws : List Value), Vals zs ws → Vals (gV zs) (g ws)) : KBn K fd ps 0 ks (fun _ ws => g ws) (fun _ zs => gV zs) := by
  obtain ⟨oc, od, dV, kV, doc, pm, an, cdv, ct, osl, rfl, lk, hcd, hD, hK⟩ := F.ex
  rcases hD with ⟨_, rfl⟩ | ⟨e, _⟩
  · refine ⟨fun s us ws _ l1 l2 => ?_, fun _ r2 => hr _ _ r2⟩
    cases us with
    | nil => exact .of_eq (h kV doc pm an cdv ct ws l2)
    | cons u us => cases l1
  · exact absurd rfl e
section
variable {P : Program} {w : World} {K : PySem.W.Frag} {mg : Str → Option Value} {base : Heap}
theorem Df.calK {x : Str} {st : Stmt} {N ps : List Str} {k : Nat} {sp : Sp} (D : Df K mg x st) (S : FnScope N ps (defScope st)) (ks : List Str) (g : List Value → List Value) (gV : List V → List V)
    (hb : ∀ (kV doc pm : Value) (an : Option Addr) (cdv ct : Value) (ws : List Value), ws.length = ks.length → bindArgs (PySem.W.fnOf x x (defArgs st) (defBody st) (defScope st) .none kV doc pm an cdv ct) ⟨[], ks.zip ws⟩ = pure (ps.zip (g ws)))
    (hr : ∀ (zs : List V) (ws : List Value), Vals zs ws → Vals (gV zs) (g ws)) (len : ∀ vs H Q E, sp vs H Q E → vs.length = ps.length)
    (body : BodyZ P w K mg base k x N st sp) : CalK P w K mg base (k + 1) x ps ks sp gV := by
  obtain ⟨f, fd, hm, F⟩ := D.ex
  exact ⟨f, fd, g, hm, F.kp, kbinds0 F ks g gV hb hr, F.ok S len fun cdv A outer s H vs Q E hr h => body f cdv A outer s H vs Q E hr h⟩
end
theorem pe_calKX {X : Cx} {E : XK} {k j : Nat} {x : Str} {ps ks : List Str} {sp : Sp} {gV : List V → List V} {p pos : Pos} {kws : List Keyword} {tk : TA} (hx : Passes (L2N.CX X.prog X.w) X E) (c : CalK X.prog X.w X.K X.mg X.base k x ps ks sp gV) (hr : Room j X.A) (hkj : k ≤ j) (hg : Gl X x) (hkw : PK X kws tk)
    (hall : (backToKw pos (keywordEach kws X.env)).all (·.1.isSome) = true := by rfl) (hks : (backToKw pos (keywordEach kws X.env)).filterMap (·.1) = ks := by rfl) (hdb : (x == ("__debug__" : Str)) = false := by decide)
    (hpl : ((backTo pos (starEach [] X.env)).any (·.1) || (backToKw pos (keywordEach kws X.env)).any (·.1.isNone)) = false := by rfl) : PE X (.Call (.Name x p) [] kws pos) (tCallKw ks.length sp gV E tk) := by
  obtain ⟨f, fd, g, hm, hk, hb, F⟩ := c.ex
  refine ⟨fun pins s σ H Q I h => ?_⟩
  refine wpAny_Call_Name_kw (ld_glob I hg hm ?_ hdb)
  refine PySem.W.callWith_KW0 (first := []) (h₀ := X.base) I.ok.mod.kin hk hall ?_ hpl
  refine thn (hkw.run pos pins s σ H _ I h) fun ws s2 ⟨zs, H2, I2, rz, l2, q2⟩ => ⟨I2.kIn, ?_⟩
  rw [hks]
  exact run_fnN (us := []) (vs := []) F (hr.mono hkj) hb hx I2 .nil rz rfl l2 q2
end Z

/-! drawing from a list of numbers that changes: loops and comprehensions beside it. -/
namespace Z
open PySem PySem.Spec PyProof.Rows L2
theorem noPyJ {d m : Int} (h1 : 0 < m) (h2 : m ≤ 1000000000000000000000000000000) : Builtin.divisionGoesByPylong d m = false := by
  refine PyProof.noPylong_of_log2 ?_
  have h0 : m.natAbs ≠ 0 := by omega
  rw [Nat.log2_lt h0]
  exact Nat.lt_of_lt_of_le (show m.natAbs < 2 ^ 100 by
    have e : (2 : Nat) ^ 100 = 1267650600228229401496703205376 := by decide +kernel
    rw [e]
    omega) (Nat.pow_le_pow_right (by decide) (by decide))
theorem Gr.freshJ {m : Addr → Prop} {a : Addr} {H H1 H2 : Hp} (e : Gr m H H1) (h : H a = none) (f : Gr (· = a) H1 H2) : Gr m H H2 := fun b o q => by
  rcases e b o q with z | ⟨h1, o1, h2, h3⟩
  · refine .inl (f.at z fun hb => ?_)
    subst hb
    rw [h] at q
    cases q
  · refine .inr ⟨h1, o1, h2, f.at h3 fun hb => ?_⟩
    subst hb
    rw [h] at q
    cases q
theorem atJ {α : Type} {xs : List α} {r : Int} (h0 : 0 ≤ r) (h1 : r < (xs.length : Int)) : ∃ v, v ∈ xs ∧ atI xs r = some v := by
  have hr : r.toNat < xs.length := by omega
  refine ⟨xs[r.toNat], List.getElem_mem hr, ?_⟩
  have e := atI_nat (List.getElem?_eq_getElem hr)
  rwa [Int.toNat_of_nonneg h0] at e
/-- three numbers to draw from -/
def Pool (H : Hp) (a : Addr) : Prop := ∃ x d c : Int, H a = some (.lst [.int x, .int d, .int c])
theorem Pool.get {H : Hp} {a p : Addr} (h : Pool H a) (hp : H p = none) : ¬ p = a := fun z => by
  obtain ⟨_, _, _, h⟩ := h
  rw [z, h] at hp
  cases hp
theorem Pool.new {H : Hp} {a p : Addr} {o : HO} (h : Pool H a) (hp : ¬ p = a) : Pool (upd H p o) a := by
  obtain ⟨x, d, c, h⟩ := h
  exact ⟨x, d, c, by rw [upd_ne (fun z => hp z.symm)]; exact h⟩
theorem Pool.newN {H : Hp} {a p : Addr} {o : HO} (h : Pool H a) (hp : H p = none) : Pool (upd H p o) a := h.new (h.get hp)
theorem Pool.ex {H H' : Hp} {a : Addr} (h : Pool H a) (e : Ex H H') : Pool H' a := by
  obtain ⟨x, d, c, h⟩ := h
  exact ⟨x, d, c, e.get h⟩
section
variable {K : PySem.W.Frag} {g : TG} {tb : TS} {te tl : TE} {Dn : Ends} {σ : L2.St} {H : Hp} {Q : VK} {a : Addr} {xs : List V}
/-- for x in e, e may change the heap -/
theorem forLj (C : Addr → List V → Hp → Prop) (ht : ∀ R : VK, (∀ p xs H1, C p xs H1 → R (.ref p) H1) → tl σ H R) (hS : ∀ p xs H1, C p xs H1 → SqL K H1 p xs) (Pv : Addr → List V → Nat → L2.St → Hp → Prop) (h0 : ∀ p xs H1, C p xs H1 → Pv p xs 0 σ H1)
    (hG : ∀ p xs i σ' H', Pv p xs i σ' H' → SqL K H' p xs)
    (hs : ∀ p xs (i : Nat) (x : V) σ' H', xs[i]? = some x → Pv p xs i σ' H' → g x σ' H' fun σ2 H2 => tb { Dn with nx := Pv p xs (i + 1), ct := Pv p xs (i + 1), bk := Dn.nx } σ2 H2)
    (hd : ∀ p xs σ' H', Pv p xs xs.length σ' H' → Dn.nx σ' H') : tFor (iList K tl) g tb Dn σ H :=
  ht _ fun p xs H1 c => ⟨p, rfl, ⟨xs, hS p xs H1 c⟩, for_list (Pv p xs) (h0 p xs H1 c) (fun i σ' H' _ q => hG p xs i σ' H' q) (fun i x σ' H' hx q => hs p xs i x σ' H' hx q) (hd p xs)⟩
/-- [x for x in l if t], t may change what m tells, and may tell anything -/
theorem lcFd {tt : TT} {j : Nat} (ht : ∀ R : VK, R (.ref a) H → tl σ H R) (hS : SqL K H a xs) (hn : xs.length ≤ 90000) (hj : j < σ.length) (m : Addr → Prop) (ha : ¬ m a) (I : Hp → Prop)
    (hm : ∀ b, m b → H b ≠ none) (hI : I H) (hIu : ∀ H' D o, H D = none → Gr m H H' → I H' → I (upd H' D o))
    (hs : ∀ (x : V) (H' : Hp) (F : Bool → Hp → Prop), x ∈ xs → Gr m H H' → I H' → (∀ b H3, Gr m H' H3 → I H3 → F b H3) → tt ((wipe σ [j]).set j (some x)) H' F)
    (k : ∀ D r H', H D = none → Gr m H H' → I H' → r.Sublist xs → H' D = some (.lst r) → Q (.ref D) H') : tLc (iList K tl) (gName j) tt (tVar j) [j] σ H Q := by
  refine ht _ ⟨a, rfl, ⟨xs, hS⟩, fun D hD => ?_⟩
  have nD : ¬ m D := fun z => hm D z hD
  refine lc_it walk_list (fun i H' => Gr m H H' ∧ I H' ∧ ∃ r : List V, H' D = some (.lst r) ∧ r.Sublist (xs.take i)) ⟨.new hD, hIu H D _ hD .refl hI, [], upd_same, List.nil_sublist _⟩ (fun i H' _ q => q.1.seqL hS ha) ?_ ?_
  · rintro i x H' H'' hi ⟨q1, q2, r, q3, q4⟩ ⟨e, hx⟩
    subst e
    have hjl : j < (wipe σ [j]).length := by
      rw [wipe_length]
      exact hj
    have et : xs.take (i + 1) = xs.take i ++ [x] := by
      rw [List.take_add_one, hx]
      rfl
    refine ⟨?_, ?_⟩
    · show ((wipe σ []).set j none |>.set j (some x)).set j none = (wipe σ []).set j none
      rw [List.set_set, List.set_set]
    · refine hs x _ _ (List.mem_of_getElem? hx) q1 q2 fun b H3 e3 i3 => ?_
      have e4 := e3.at q3 nD
      cases b
      · refine iteF ⟨q1.trans e3, i3, r, e4, ?_⟩
        rw [et]
        exact q4.trans (List.sublist_append_left ..)
      · refine iteT ⟨x, List.getElem?_set_self hjl, _, e4, smallt ?_, (q1.trans e3).put e4 (.inl hD), hIu _ D _ hD (q1.trans e3) i3, _, upd_same, ?_⟩
        · have h1 := q4.length_le
          rw [List.length_take] at h1
          omega
        · rw [et]
          exact q4.append (List.Sublist.refl _)
  · rintro H' ⟨q1, q2, r, q3, q4⟩
    rw [List.take_length] at q4
    exact k D r H' hD q1 q2 q4 q3
end
end Z

namespace Z
open PySem PySem.Spec PyProof.Rows L2
section
variable {K : PySem.W.Frag} {g : TG} {te tl : TE} {ta : TA} {tt : TT} {σ : L2.St} {H : Hp} {Q : VK}
/-- [f k for k in range(n) if p k] -/
theorem lcFMR {j : Nat} (n : Nat) (ht : ∀ R : List V → Hp → Prop, R [.int (n : Int)] H → ta σ H R) (hn : n ≤ 90000) (hj : j < σ.length) (p : Nat → Bool) (f : Nat → V)
    (hs : ∀ (i : Nat) (H' : Hp) (F : Bool → Hp → Prop), i < n → Ex H H' → (∀ H3, Ex H' H3 → F (p i) H3) → tt ((wipe σ [j]).set j (some (.int (i : Int)))) H' F)
    (he : ∀ (i : Nat) (H' : Hp) (Q' : VK), i < n → p i = true → Ex H H' → (∀ H3, Ex H' H3 → Q' (f i) H3) → te ((wipe σ [j]).set j (some (.int (i : Int)))) H' Q')
    (k : ∀ D H', H D = none → Ex H H' → H' D = some (.lst (((List.range n).filter p).map f)) → Q (.ref D) H') : tLc (iRng1 ta) (gName j) tt te [j] σ H Q := by
  refine ht _ ⟨(n : Int), rfl, by omega, by omega, fun D hD => ?_⟩
  refine lc_it (walk_range (lo := 0) (n := n)) (fun i H' => i ≤ n ∧ Ex H H' ∧ H' D = some (.lst (((List.range i).filter p).map f))) ⟨by omega, .new hD, upd_same⟩ (fun _ _ _ _ => trivial) ?_ ?_
  · rintro i x H' H'' hi ⟨_, q1, q2⟩ ⟨e, hx⟩
    subst e
    have e0 : (0 : Int) + (i : Int) = (i : Int) := Int.zero_add _
    have hx2 : x = .int (i : Int) := by rw [hx]; exact congrArg V.int e0
    subst hx2
    refine ⟨?_, ?_⟩
    · show ((wipe σ []).set j none |>.set j (some _)).set j none = (wipe σ []).set j none
      rw [List.set_set, List.set_set]
    · have hl : ((List.range i).filter p).length ≤ i := by
        have h1 := List.length_filter_le p (List.range i)
        rwa [List.length_range] at h1
      refine hs i _ _ hi q1 fun H3 e3 => ?_
      have e4 := e3.get q2
      cases hp : p i
      · refine iteF ⟨by omega, q1.trans e3, ?_⟩
        rw [List.range_succ, List.filter_append, List.filter_cons, hp]
        simpa using e4
      · refine iteT (he i H3 _ hi hp (q1.trans e3) fun H4 e5 => ?_)
        have e6 := e5.get e4
        refine ⟨_, e6, smallt (by rw [List.length_map]; omega), by omega, ((q1.trans e3).trans e5).put e6 (.inl hD), ?_⟩
        rw [upd_same, List.range_succ, List.filter_append, List.filter_cons, hp]
        simp
  · rintro H' ⟨_, q1, q2⟩
    exact k D H' hD q1 q2
end
end Z

/-! heaps that grow, whatever the tables of code objects are written: where lambdas are made. -/
namespace Z
open PySem PySem.Spec PyProof.Rows L2 LamX
def Gx (m : Addr → Prop) (H H' : Hp) : Prop := ∀ b o, H b = some o → (∀ ps, o ≠ .tbl ps) → H' b = some o ∨ (m b ∧ ∃ o', Alt o o' ∧ H' b = some o')
section
variable {m n : Addr → Prop} {H H' H'' : Hp} {a b p : Addr} {o o' : HO} {K : PySem.W.Frag} {T : List (Addr × Str)}
theorem Alt.nt (h : Alt o o') (ps : Array Value) : o' ≠ .tbl ps := fun z => by
  rcases h with ⟨_, _, _, rfl⟩ | ⟨_, _, _, _, _, rfl⟩ <;> cases z
theorem Gr.x (e : Gr m H H') : Gx m H H' := fun b o h _ => e b o h
theorem Gx.refl : Gx m H H := fun _ _ h _ => .inl h
theorem Gx.ext (e : ExtN H H') : Gx m H H' := fun b o h q => .inl (e b o h q)
theorem Gx.trans (e : Gx m H H') (f : Gx m H' H'') : Gx m H H'' := fun c o h q => by
  rcases e c o h q with h | ⟨h1, o1, h2, h3⟩
  · exact f c o h q
  · rcases f c _ h3 h2.nt with h | ⟨_, o2, h4, h5⟩
    · exact .inr ⟨h1, o1, h2, h⟩
    · exact .inr ⟨h1, o2, h2.trans h4, h5⟩
theorem Gx.up (h : Gx m H H') (w : ∀ a, m a → n a) : Gx n H H' := fun b o e q => (h b o e q).imp id fun ⟨h1, h2⟩ => ⟨w b h1, h2⟩
theorem Gx.of (h : Gx nob H H') : Gx m H H' := h.up fun _ z => z.elim
theorem Gx.at (e : Gx m H H') (h : H a = some o) (q : ¬ m a) (t : ∀ ps, o ≠ .tbl ps) : H' a = some o := (e a o h t).elim id fun ⟨z, _⟩ => (q z).elim
theorem Gx.lst {xs : List V} (e : Gx m H H') (h : H a = some (.lst xs)) (q : ¬ m a) : H' a = some (.lst xs) := e.at h q fun _ z => by cases z
theorem Gx.ins {C dx : Addr} {fs : List (Str × V)} (e : Gx m H H') (h : H a = some (.ins C dx fs)) (q : ¬ m a) : H' a = some (.ins C dx fs) := e.at h q fun _ z => by cases z
theorem Gx.tup {xs : List V} (e : Gx m H H') (h : H a = some (.tup xs)) : H' a = some (.tup xs) := by
  rcases e a _ h (fun _ z => by cases z) with z | ⟨_, _, z, _⟩
  · exact z
  · rcases z with ⟨_, _, q, _⟩ | ⟨_, _, _, _, q, _⟩ <;> cases q
theorem Gx.frz {ob : Obj} {u : HO} (e : Gx m H H') (h : H a = some (.frz ob u)) : H' a = some (.frz ob u) := by
  rcases e a _ h (fun _ z => by cases z) with z | ⟨_, _, z, _⟩
  · exact z
  · rcases z with ⟨_, _, q, _⟩ | ⟨_, _, _, _, q, _⟩ <;> cases q
theorem Gx.seqT {xs : List V} (e : Gx m H H') (h : SqT K H a xs) : SqT K H' a xs := by
  rcases h with (h | ⟨o, h⟩) | h
  · exact .inl (.inl (e.tup h))
  · exact .inl (.inr ⟨o, e.frz h⟩)
  · exact .inr h
theorem Gx.seqL {xs : List V} (e : Gx m H H') (h : SqL K H a xs) (q : ¬ m a) : SqL K H' a xs := by
  rcases h with (h | ⟨o, h⟩) | h
  · exact .inl (.inl (e.lst h q))
  · exact .inl (.inr ⟨o, e.frz h⟩)
  · exact .inr h
/-- tables stay what they are while no lambda is made -/
theorem TabS.gr {q : Str} (t : TabS H a q) (e : Gr m H H') : TabS H' a q := by
  obtain ⟨ps, h1, h2, h3⟩ := t
  refine ⟨ps, e.still h1 rfl, h2, fun pos cv hc => ?_⟩
  obtain ⟨c, e1, e2⟩ := h3 pos cv hc
  exact ⟨c, e1, e.still e2 rfl⟩
theorem Tabs.gr (t : Tabs T H) (e : Gr m H H') : Tabs T H' := fun p hp => TabS.gr (t p hp) e
/-- a thing that H did not know may change -/
theorem Gx.fresh (e : Gr nob H H') (h : H p = none) (f : Gx (· = p) H' H'') : Gx nob H H'' := fun b o hb q => by
  rcases f b o (e.get hb) q with z | ⟨z, _⟩
  · exact .inl z
  · rw [z, h] at hb
    cases hb
theorem Gx.put {xs : List V} (e : Gx m H H') (hp : H p = none) : Gx m H (upd H' p (.lst xs)) := fun b o h q => by
  have hb : b ≠ p := fun z => by
    rw [z, hp] at h
    cases h
  rw [upd_ne hb]
  exact e b o h q
theorem Tabs.put {xs ys : List V} (t : Tabs T H) (hp : H p = some (.lst xs)) : Tabs T (upd H p (.lst ys)) := Tabs.gr (m := any) t (Gr.refl.put hp (.inr trivial))
theorem Tabs.start (h : ∀ p ∈ T, H p.1 = some (.tbl #[])) : Tabs T H := fun p hp => .nil (h p hp)
end
section
variable {te : TE} {ta : TA} {σ : L2.St} {H : Hp} {Q : VK} {T : List (Addr × Str)}
/-- [f i for i in range(n)] of truths, lambdas made within -/
theorem lcTX {j : Nat} (n : Nat) (ht : ∀ R : List V → Hp → Prop, R [.int (n : Int)] H → ta σ H R) (hn : n ≤ 90000) (hT : Tabs T H)
    (hs : ∀ (i : Nat) (H' : Hp) (Q' : VK), i < n → Gx nob H H' → Tabs T H' → (∀ H3, Gx nob H' H3 → Tabs T H3 → Q' (.bl true) H3) → te ((wipe σ [j]).set j (some (.int (i : Int)))) H' Q')
    (k : ∀ D H', Gx nob H H' → Tabs T H' → H' D = some (.lst (List.replicate n (.bl true))) → Q (.ref D) H') : tLc (iRng1 ta) (gName j) tYes te [j] σ H Q := by
  refine ht _ ⟨(n : Int), rfl, by omega, by omega, fun D hD => ?_⟩
  refine lc_it (walk_range (lo := 0) (n := n)) (fun i H' => i ≤ n ∧ Gx nob H H' ∧ Tabs T H' ∧ H' D = some (.lst (List.replicate i (.bl true)))) ⟨by omega, (Gr.new hD).x, Tabs.gr (m := nob) hT (Gr.new hD), upd_same⟩ (fun _ _ _ _ => trivial) ?_ ?_
  · rintro i x H' H'' hi ⟨_, q1, q2, q3⟩ ⟨e, hx⟩
    subst e
    have e0 : (0 : Int) + (i : Int) = (i : Int) := Int.zero_add _
    have hx2 : x = .int (i : Int) := by rw [hx]; exact congrArg V.int e0
    subst hx2
    refine ⟨?_, ?_⟩
    · show ((wipe σ []).set j none |>.set j (some _)).set j none = (wipe σ []).set j none
      rw [List.set_set, List.set_set]
    · unfold tYes
      show te _ _ _
      refine hs i _ _ hi q1 q2 fun H3 x3 t3 => ?_
      have f3 := x3.lst q3 id
      refine ⟨_, f3, smallt (by rw [List.length_replicate]; omega), by omega, (q1.trans x3).put hD, Tabs.put t3 f3, ?_⟩
      rw [upd_same, List.replicate_succ']
  · rintro H' ⟨_, q1, q2, q3⟩
    exact k D H' q1 q2 q3
end
end Z

/-! math.lcm; a slice of a list or a tuple. -/
namespace Z
open PySem PySem.Spec PyProof.Rows L2
section
variable {X : Cx}
def rLcm : List V → Hp → VK → Prop := fun vs H Q => ∃ a b : Int, vs = [.int a, .int b] ∧ a.natAbs < 2 ^ 64 ∧ b.natAbs < 2 ^ 64 ∧ Q (.int ((a.natAbs.lcm b.natAbs : Nat) : Int)) H
theorem cr_lcm : CallR X (.builtin "math.lcm") rLcm := by
  intro pins s σ H vs us Q I r h
  obtain ⟨a, b, rfl, ha, hb, q⟩ := h
  obtain ⟨t, u, rfl⟩ := Vals.int2 r
  exact PySem.W.mc_lcm ha hb fun _ => ⟨.int _, H, I.tok _, ⟨_, rfl⟩, q⟩
end
end Z
namespace Z
open PySem PySem.Spec PyProof.Rows L2
section
variable {X : Cx}
/-- a slice of what is a list or a tuple -/
def rSlX (K : PySem.W.Frag) : V → Option Int → Option Int → Hp → VK → Prop := fun x lo hi H Q => rSlL K x lo hi H Q ∨ rSlA K x lo hi H Q
theorem sl_any : SlR X (rSlX X.K) := by
  intro pins s σ H x v vl vu lo hi sl Q I rx hs pl pu h
  rcases h with h | h
  · exact sl_list pins s σ H x v vl vu lo hi sl Q I rx hs pl pu h
  · exact sl_tupA pins s σ H x v vl vu lo hi sl Q I rx hs pl pu h
end
end Z

/-! comprehensions over zip of two tuples, and over range(lo, hi). -/
namespace Z
open PySem PySem.Spec PyProof.Rows L2 RZ
section
variable {K : PySem.W.Frag} {σ : L2.St} {H : Hp} {Q : VK} {ta : TA} {tt : TT} {te : TE} {g : TG} {vs : List Nat}
theorem walk_zipT {a b : Addr} {xs ys : List V} {n : Nat} (h1 : xs.length = n) (h2 : ys.length = n) : Walk (ItzT K a b) n (fun H => SqT K H a xs ∧ SqT K H b ys) (YPair (fun i => xs[i]?) (fun i => ys[i]?)) where
  goes i H hi q := ⟨xs, ys, xs[i], ys[i], q.1, q.2, List.getElem?_eq_getElem _, List.getElem?_eq_getElem _⟩
  stops H q := ⟨xs, ys, q.1, q.2, .inl (Nat.le_of_eq h1)⟩
  yields i H v H' hi q y := by
    obtain ⟨T, x, z, e1, e2, e3, e4, e5⟩ := y
    exact ⟨T, x, z, e1, e2, e3, e4 xs q.1, e5 ys q.2⟩
theorem lcZT {a b : Addr} {xs ys : List V} {n : Nat} (ht : ∀ R : List V → Hp → Prop, R [.ref a, .ref b] H → ta σ H R) (h1 : SqT K H a xs) (h2 : SqT K H b ys) (l1 : xs.length = n) (l2 : ys.length = n) (hn : n ≤ 90000) (zs : List V) (hz : zs.length = n)
    (hs : ∀ (i : Nat) (T : Addr) (x y z : V) (H' : Hp) (Q' : VK), xs[i]? = some x → ys[i]? = some y → zs[i]? = some z → Ex H H' → H' T = some (.tup [x, y]) → (∀ H3, Ex H' H3 → Q' z H3) → g (.ref T) (wipe σ vs) H' fun σ2 H2 => wipe σ2 vs = wipe σ vs ∧ te σ2 H2 Q')
    (k : ∀ D H', H D = none → Ex H H' → H' D = some (.lst zs) → Q (.ref D) H') : tLc (iZipA K ta) g tYes te vs σ H Q := by
  refine ht _ ⟨a, b, xs, ys, rfl, .inr ⟨h1, h2, ?_⟩⟩
  refine lc_all (walk_zipT l1 l2) nob (fun _ => True) (fun i y _ => zs[i]? = some y) hn (fun H' e => ⟨e.seqT h1, e.seqT h2⟩) (fun _ z => z.elim) trivial (fun _ _ _ _ _ _ => trivial) (fun _ _ _ _ q _ => q) (fun i v H' H'' Q' hi e _ y q => ?_) fun D ws H' hD e _ f lw hw => ?_
  · obtain ⟨T, x, z, rfl, nT, rfl, e4, e5⟩ := y
    have eT : Ex H' (upd H' T (.tup [x, z])) := .new nT
    have hi2 : i < zs.length := by omega
    exact hs i T x z zs[i] _ Q' e4 e5 (List.getElem?_eq_getElem hi2) (e.trans eT) upd_same fun H3 e3 => q _ H3 (eT.trans e3) trivial (List.getElem?_eq_getElem hi2)
  · have ew : ws = zs := ext_of (lw.trans hz.symm) hw
    exact k D H' hD e (ew ▸ f)
/-- what is walked is made first -/
theorem lcZd (C : Addr → Addr → Hp → Prop) (ht : ∀ R : List V → Hp → Prop, (∀ a b H1, C a b H1 → R [.ref a, .ref b] H1) → ta σ H R)
    (hk : ∀ a b H1, C a b H1 → tLc (iZipA K (fun _ H R => R [.ref a, .ref b] H)) g tt te vs σ H1 Q) : tLc (iZipA K ta) g tt te vs σ H Q := ht _ hk
/-- [f i for i in range(lo, lo + n) if p i] -/
theorem lcFM2 {j : Nat} {lo : Int} (n : Nat) (ht : ∀ R : List V → Hp → Prop, R [.int lo, .int (lo + n)] H → ta σ H R) (hlo : -1000000 ≤ lo ∧ lo ≤ 1000000) (hn : n ≤ 90000) (hj : j < σ.length) (p : Nat → Bool) (f : Nat → V)
    (hs : ∀ (i : Nat) (H' : Hp) (F : Bool → Hp → Prop), i < n → Ex H H' → (∀ H3, Ex H' H3 → F (p i) H3) → tt ((wipe σ [j]).set j (some (.int (lo + i)))) H' F)
    (he : ∀ (i : Nat) (H' : Hp) (Q' : VK), i < n → p i = true → Ex H H' → (∀ H3, Ex H' H3 → Q' (f i) H3) → te ((wipe σ [j]).set j (some (.int (lo + i)))) H' Q')
    (k : ∀ D H', H D = none → Ex H H' → H' D = some (.lst (((List.range n).filter p).map f)) → Q (.ref D) H') : tLc (iRng2 ta) (gName j) tt te [j] σ H Q := by
  refine ht _ ⟨lo, lo + n, rfl, ⟨by omega, by omega, by omega, by omega⟩, ?_⟩
  have en : (lo + n - lo).toNat = n := by omega
  rw [en]
  intro D hD
  refine lc_it (walk_range (lo := lo) (n := n)) (fun i H' => i ≤ n ∧ Ex H H' ∧ H' D = some (.lst (((List.range i).filter p).map f))) ⟨Nat.zero_le _, .new hD, upd_same⟩ (fun _ _ _ _ => trivial) ?_ fun H' q => k D H' hD q.2.1 q.2.2
  rintro i x H' _ hi ⟨_, q1, q2⟩ ⟨rfl, rfl⟩
  refine ⟨by show ((wipe σ []).set j none |>.set j (some _)).set j none = (wipe σ []).set j none; rw [List.set_set, List.set_set], hs i _ _ hi q1 fun H3 e3 => ?_⟩
  have hl : ((List.range i).filter p).length ≤ i := Nat.le_trans (List.length_filter_le p _) (by rw [List.length_range]; exact Nat.le_refl _)
  have e4 := e3.get q2
  cases hp : p i with
  | false =>
    refine iteF ⟨by omega, q1.trans e3, ?_⟩
    rw [List.range_succ, List.filter_append, List.filter_cons, hp]
    simpa using e4
  | true =>
    refine iteT (he i H3 _ hi hp (q1.trans e3) fun H4 e5 => ?_)
    have e6 := e5.get e4
    refine ⟨_, e6, smallt (by rw [List.length_map]; omega), by omega, ((q1.trans e3).trans e5).put e6 (.inl hD), ?_⟩
    rw [upd_same, List.range_succ, List.filter_append, List.filter_cons, hp]
    simp
end
end Z

/-! zip of a list and a tuple, in either order: one walk for all four (b says: a list). -/
namespace ZM
open PySem PySem.Spec PyProof.Rows L2 RZ
/-- an iterator over a list (true) or a tuple (false) -/
def Itr (b : Bool) (h : Heap) (i l : Addr) (k : Nat) : Prop := match b with
  | true => h.IsListIter i l k
  | false => h.IsTupleIter i l k
def Src (b : Bool) (h : Heap) (l : Addr) (xs : Array Value) : Prop := match b with
  | true => h.IsList l xs
  | false => h.IsTuple l xs
theorem Itr.keep {b : Bool} {h h' : Heap} {i l : Addr} {k : Nat} (x : Itr b h i l k) (e : ∀ o, h.get? i = some o → h'.get? i = some o) : Itr b h' i l k := by
  cases b with
  | false => exact Heap.IsTupleIter.at x e
  | true => exact Heap.IsListIter.at x e
theorem Src.keep {b : Bool} {h h' : Heap} {l : Addr} {xs : Array Value} (x : Src b h l xs) (e : ∀ o, h.get? l = some o → h'.get? l = some o) : Src b h' l xs := by
  cases b <;> (obtain ⟨o, ho, r⟩ := x; exact ⟨o, e o ho, r⟩)
theorem Src.lt {b : Bool} {h : Heap} {l : Addr} {xs : Array Value} (x : Src b h l xs) : l < h.objs.size := by
  cases b <;> (obtain ⟨o, ho, _⟩ := x; exact Heap.lt_size ho)
theorem Itr.obj {b : Bool} {h : Heap} {i l : Addr} {k : Nat} (x : Itr b h i l k) : ∃ o, h.get? i = some o ∧ o.data = .fields #[.ref l, .int k 0] := by
  cases b <;> (obtain ⟨o, ho, _, r⟩ := x; exact ⟨o, ho, r⟩)
section
variable {prog : Program} {w : World} {A : Around} {E : Value → Shared → Prop} {s : Shared}
theorem nx {b : Bool} {it l : Addr} {k : Nat} {xs : Array Value} {x : Value} {Q : Value → Shared → Prop} (h : Itr b s.heap it l k) (hl : Src b s.heap l xs) (hx : xs[k]? = some x)
    (q : ∀ h', Itr b h' it l (k + 1) → Heap.SameBut it s.heap h' → Q x { s with heap := h' }) : wpAny (model prog w) A (Builtin.SmallTypes.nextOf (.ref it)) Q E s := by
  cases b with
  | false => exact nextOf_tuple_item h hl hx q
  | true => exact wpAny_nextOf_list_item h hl hx q
theorem nxEnd {b : Bool} {it l : Addr} {k : Nat} {xs : Array Value} {Q : Value → Shared → Prop} (hh : A.handled = none) (h : Itr b s.heap it l k) (hl : Src b s.heap l xs) (hx : xs[k]? = none)
    (q : ∀ h' e, Heap.ExtBut it s.heap h' → (∃ o, h'.get? e = some o ∧ o.cls = .type "StopIteration") → E (.ref e) { s with heap := h' }) : wpAny (model prog w) A (Builtin.SmallTypes.nextOf (.ref it)) Q E s := by
  cases b with
  | false => exact nextOf_tuple_end hh h hl hx q
  | true => exact wpAny_nextOf_list_end hh h hl hx q
theorem sb {c d : Addr} {h h' : Heap} {o : Obj} (x : Heap.SameBut c h h') (n : d ≠ c) (e : h.get? d = some o) : h'.get? d = some o := x.extBut d o n e
/-- the pair of an item of each -/
theorem next_item {b1 b2 : Bool} {z TI TO i1 i2 l1 l2 : Addr} {k1 k2 : Nat} {xs ys : Array Value} {x y u v : Value} {Q : Value → Shared → Prop} (D : ZipApart z TI TO i1 i2 l1 l2) (fz : IsZip s.heap z TI TO .none) (fI : IsPair s.heap TI (.ref i1) (.ref i2)) (fO : IsPair s.heap TO u v)
    (f1 : Itr b1 s.heap i1 l1 k1) (f2 : Itr b2 s.heap i2 l2 k2) (g1 : Src b1 s.heap l1 xs) (g2 : Src b2 s.heap l2 ys) (hx : xs[k1]? = some x) (hy : ys[k2]? = some y)
    (q : ∀ h', IsZip h' z TI TO (rawInt s.heap.objs.size) → IsPair h' TO x y → Itr b1 h' i1 l1 (k1 + 1) → Itr b2 h' i2 l2 (k2 + 1) → IsPair h' s.heap.objs.size x y → h'.objs.size = s.heap.objs.size + 1 →
      (∀ c o, c ≠ z → c ≠ TO → c ≠ i1 → c ≠ i2 → s.heap.get? c = some o → h'.get? c = some o) → Q (.ref s.heap.objs.size) { s with heap := h' }) :
    wpAny (model prog w) A (Builtin.«zip.__next__» ⟨[.ref z], []⟩) (fun fin s' => ∃ v, fin = .done (.ret v) ∧ Q v s') E s := by
  show wpAny _ _ (field (.ref z) 2 >>= _) _ _ _
  refine wpAny_bind (wpAny_field fz rfl (x := .bool false) rfl ?_)
  show wpAny _ _ (field (.ref z) 3 >>= _) _ _ _
  refine wpAny_bind (wpAny_field fz rfl (x := .ref TI) rfl (wpAny_bind (wpAny_seqItems fI rfl ?_)))
  show wpAny _ _ (Builtin.SmallTypes.ownedTupleIsFree (.ref z) >>= _) _ _ _
  unfold Builtin.SmallTypes.ownedTupleIsFree
  refine wpAny_bind (wpAny_bind (wpAny_field fz rfl (x := .none) rfl (wpAny_pure ?_)))
  rw [if_pos rfl]
  refine wpAny_bind (wpAny_rule (wpAny_bind (wpAny_field fz rfl (x := .ref TO) rfl (wpAny_bind (wpAny_setField_rec fz (by simp) fun ha za sa => ?_)))))
  replace za : IsZip ha z TI TO .ellipsis := za
  simp only [List.zipIdx_cons, List.zipIdx_nil, List.forIn_cons, List.forIn_nil]
  refine wpAny_bind (wpAny_bind (wpAny_bind (wpAny_onRaise ?_)))
  show wpAny _ _ (Builtin.SmallTypes.nextOf (.ref i1) >>= _) _ _ _
  refine wpAny_bind (nx (f1.keep fun o => sb sa D.i1z) (g1.keep fun o => sb sa D.l1z) hx fun hb n1 s2 => wpAny_pure ?_)
  have pb : IsPair hb TO u v := sb s2 D.TOi1 (sb sa D.TOz fO)
  refine wpAny_bind (wpAny_seqItems pb rfl (wpAny_bind (wpAny_updateSeq_pair pb fun hc pc s3 => wpAny_bind (wpAny_letGo (wpAny_pure ?_)))))
  replace pc : IsPair hc TO x v := pc
  refine wpAny_bind (wpAny_bind (wpAny_onRaise ?_))
  show wpAny _ _ (Builtin.SmallTypes.nextOf (.ref i2) >>= _) _ _ _
  refine wpAny_bind (nx (f2.keep fun o e => sb s3 D.TOi2.symm (sb s2 D.i12.symm (sb sa D.i2z e))) (g2.keep fun o e => sb s3 D.l2TO (sb s2 D.l2i1 (sb sa D.l2z e))) hy fun hd n2 s4 => wpAny_pure ?_)
  have pd : IsPair hd TO x v := sb s4 D.TOi2 pc
  refine wpAny_bind (wpAny_seqItems pd rfl (wpAny_bind (wpAny_updateSeq_pair pd fun he pe s5 => wpAny_bind (wpAny_letGo (wpAny_pure (wpAny_pure ?_))))))
  replace pe : IsPair he TO x y := pe
  refine wpAny_bind (wpAny_seqItems pe rfl (wpAny_bind (wpAny_newTuple ?_)))
  have size : he.objs.size = s.heap.objs.size := by rw [s5.1, s4.1, s3.1, s2.1, sa.1]
  have ze : IsZip he z TI TO .ellipsis := sb s5 D.TOz.symm (sb s4 D.i2z.symm (sb s3 D.TOz.symm (sb s2 D.i1z.symm za)))
  have kept : ∀ c o, c ≠ z → c ≠ TO → c ≠ i1 → c ≠ i2 → s.heap.get? c = some o → he.get? c = some o := fun c o c1 c2 c3 c4 e => sb s5 c2 (sb s4 c4 (sb s3 c2 (sb s2 c3 (sb sa c1 e))))
  have m1 : Itr b1 he i1 l1 (k1 + 1) := n1.keep fun o e => sb s5 D.TOi1.symm (sb s4 D.i12 (sb s3 D.TOi1.symm e))
  have m2 : Itr b2 he i2 l2 (k2 + 1) := n2.keep fun o e => sb s5 D.TOi2.symm e
  have lz : z < he.objs.size := Heap.lt_size ze
  show wpAny _ _ (Builtin.SmallTypes.ownedTupleHandOut (.ref z) (.ref he.objs.size) >>= _) _ _ _
  unfold Builtin.SmallTypes.ownedTupleHandOut
  have zf : IsZip (he.push { cls := .type "tuple", data := .seq #[x, y] }) z TI TO .ellipsis := Heap.get?_push_of_some _ ze
  refine wpAny_bind (wpAny_bind (wpAny_setField_rec zf (by simp) fun hg zg sg => ?_))
  replace zg : IsZip hg z TI TO (rawInt he.objs.size) := zg
  refine wpAny_setField_rec zg (by simp) fun hi zi si => ?_
  replace zi : IsZip hi z TI TO (rawInt he.objs.size) := zi
  have up : ∀ c o, c ≠ z → he.get? c = some o → hi.get? c = some o := fun c o n e => sb si n (sb sg n (Heap.get?_push_of_some _ e))
  have pi : IsPair hi he.objs.size x y := sb si (Nat.ne_of_gt lz) (sb sg (Nat.ne_of_gt lz) (Heap.get?_push_size _ rfl))
  have zs : hi.objs.size = he.objs.size + 1 := by rw [si.1, sg.1, Heap.size_push]
  rw [size] at zi pi zs
  refine wpAny_pure ⟨_, rfl, ?_⟩
  show Q (.ref he.objs.size) _
  rw [size]
  exact q hi zi (up _ _ D.TOz pe) (m1.keep fun o => up _ o D.i1z) (m2.keep fun o => up _ o D.i2z) pi zs fun c o c1 c2 c3 c4 e => up c o c1 (kept c o c1 c2 c3 c4 e)
/-- one of them has ended -/
theorem next_end {b1 b2 : Bool} {z TI TO i1 i2 l1 l2 : Addr} {k1 k2 : Nat} {xs ys : Array Value} {u v : Value} {Q : Fin → Shared → Prop} (hh : A.handled = none) (D : ZipApart z TI TO i1 i2 l1 l2) (fz : IsZip s.heap z TI TO .none) (fI : IsPair s.heap TI (.ref i1) (.ref i2)) (fO : IsPair s.heap TO u v)
    (f1 : Itr b1 s.heap i1 l1 k1) (f2 : Itr b2 s.heap i2 l2 k2) (g1 : Src b1 s.heap l1 xs) (g2 : Src b2 s.heap l2 ys) (en : xs[k1]? = none ∨ ys[k2]? = none)
    (q : ∀ h' e, (∀ c o, c ≠ z → c ≠ TO → c ≠ i1 → c ≠ i2 → s.heap.get? c = some o → h'.get? c = some o) → (∃ o, h'.get? e = some o ∧ o.cls = .type "StopIteration") → E (.ref e) { s with heap := h' }) :
    wpAny (model prog w) A (Builtin.«zip.__next__» ⟨[.ref z], []⟩) Q E s := by
  show wpAny _ _ (field (.ref z) 2 >>= _) _ _ _
  refine wpAny_bind (wpAny_field fz rfl (x := .bool false) rfl ?_)
  show wpAny _ _ (field (.ref z) 3 >>= _) _ _ _
  refine wpAny_bind (wpAny_field fz rfl (x := .ref TI) rfl (wpAny_bind (wpAny_seqItems fI rfl ?_)))
  show wpAny _ _ (Builtin.SmallTypes.ownedTupleIsFree (.ref z) >>= _) _ _ _
  unfold Builtin.SmallTypes.ownedTupleIsFree
  refine wpAny_bind (wpAny_bind (wpAny_field fz rfl (x := .none) rfl (wpAny_pure ?_)))
  rw [if_pos rfl]
  refine wpAny_bind (wpAny_rule (wpAny_bind (wpAny_field fz rfl (x := .ref TO) rfl (wpAny_bind (wpAny_setField_rec fz (by simp) fun ha za sa => ?_)))))
  replace za : IsZip ha z TI TO .ellipsis := za
  simp only [List.zipIdx_cons, List.zipIdx_nil, List.forIn_cons, List.forIn_nil]
  refine wpAny_bind (wpAny_bind (wpAny_bind (wpAny_onRaise ?_)))
  show wpAny _ _ (Builtin.SmallTypes.nextOf (.ref i1) >>= _) _ _ _
  have away : ∀ {h' : Heap} {e : Addr} {oe : Obj}, IsZip h' z TI TO .ellipsis → h'.get? e = some oe → oe.cls = .type "StopIteration" → e ≠ z := fun hz he hc n => by
    subst n
    rw [hz] at he
    cases he
    simp at hc
  cases hx : xs[k1]? with
  | none =>
    refine wpAny_bind (nxEnd hh (f1.keep fun o => sb sa D.i1z) (g1.keep fun o => sb sa D.l1z) hx fun hb e s2 ⟨oe, e1, e2⟩ => ?_)
    have zb : IsZip hb z TI TO .ellipsis := s2 _ _ D.i1z.symm za
    exact wpAny_setField_rec zb (by simp) fun hc _ s3 => q hc e (fun c o c1 _ c3 _ x => sb s3 c1 (s2 _ _ c3 (sb sa c1 x))) ⟨oe, sb s3 (away zb e1 e2) e1, e2⟩
  | some x =>
    have hy : ys[k2]? = none := en.resolve_left fun h => by rw [hx] at h; cases h
    refine wpAny_bind (nx (f1.keep fun o => sb sa D.i1z) (g1.keep fun o => sb sa D.l1z) hx fun hb n1 s2 => wpAny_pure ?_)
    have pb : IsPair hb TO u v := sb s2 D.TOi1 (sb sa D.TOz fO)
    refine wpAny_bind (wpAny_seqItems pb rfl (wpAny_bind (wpAny_updateSeq_pair pb fun hc pc s3 => wpAny_bind (wpAny_letGo (wpAny_pure ?_)))))
    refine wpAny_bind (wpAny_bind (wpAny_onRaise ?_))
    show wpAny _ _ (Builtin.SmallTypes.nextOf (.ref i2) >>= _) _ _ _
    refine wpAny_bind (nxEnd hh (f2.keep fun o e => sb s3 D.TOi2.symm (sb s2 D.i12.symm (sb sa D.i2z e))) (g2.keep fun o e => sb s3 D.l2TO (sb s2 D.l2i1 (sb sa D.l2z e))) hy fun hd e s4 ⟨oe, e1, e2⟩ => ?_)
    have zd : IsZip hd z TI TO .ellipsis := s4 _ _ D.i2z.symm (sb s3 D.TOz.symm (sb s2 D.i1z.symm za))
    exact wpAny_setField_rec zd (by simp) fun he _ s5 => q he e (fun c o c1 c2 c3 c4 x => sb s5 c1 (s4 _ _ c4 (sb s3 c2 (sb s2 c3 (sb sa c1 x))))) ⟨oe, sb s5 (away zd e1 e2) e1, e2⟩
theorem py_item {b1 b2 : Bool} {z TI TO i1 i2 l1 l2 : Addr} {k1 k2 : Nat} {xs ys : Array Value} {x y u v : Value} {Q : Option Value → Shared → Prop} (D : ZipApart z TI TO i1 i2 l1 l2) (fz : IsZip s.heap z TI TO .none) (fI : IsPair s.heap TI (.ref i1) (.ref i2)) (fO : IsPair s.heap TO u v)
    (f1 : Itr b1 s.heap i1 l1 k1) (f2 : Itr b2 s.heap i2 l2 k2) (g1 : Src b1 s.heap l1 xs) (g2 : Src b2 s.heap l2 ys) (hx : xs[k1]? = some x) (hy : ys[k2]? = some y)
    (q : ∀ h', IsZip h' z TI TO (rawInt s.heap.objs.size) → IsPair h' TO x y → Itr b1 h' i1 l1 (k1 + 1) → Itr b2 h' i2 l2 (k2 + 1) → IsPair h' s.heap.objs.size x y → h'.objs.size = s.heap.objs.size + 1 →
      (∀ c o, c ≠ z → c ≠ TO → c ≠ i1 → c ≠ i2 → s.heap.get? c = some o → h'.get? c = some o) → Q (some (.ref s.heap.objs.size)) { s with heap := h' }) : wpAny (model prog w) A (pyNext (.ref z)) Q E s := by
  have ty : s.TypeIs (.ref z) "zip" := ⟨_, fz, rfl⟩
  unfold pyNext
  exact wpAny_bind (wpAny_attempt (wpAny_callSpecial?_slot (name := Str.ofString "__next__") ty F.slot_zip_next (wpAny_call_entry F.slot_zip_next ty F.entry_zip_next
    (next_item D fz fI fO f1 f2 g1 g2 hx hy fun h' a1 a2 a3 a4 a5 a6 a7 => wpAny_pure (q h' a1 a2 a3 a4 a5 a6 a7)) (F.args_zip_next_1 _))))
theorem py_end {b1 b2 : Bool} {z TI TO i1 i2 l1 l2 : Addr} {k1 k2 : Nat} {xs ys : Array Value} {u v : Value} {Q : Option Value → Shared → Prop} (hh : A.handled = none) (D : ZipApart z TI TO i1 i2 l1 l2) (fz : IsZip s.heap z TI TO .none) (fI : IsPair s.heap TI (.ref i1) (.ref i2)) (fO : IsPair s.heap TO u v)
    (f1 : Itr b1 s.heap i1 l1 k1) (f2 : Itr b2 s.heap i2 l2 k2) (g1 : Src b1 s.heap l1 xs) (g2 : Src b2 s.heap l2 ys) (en : xs[k1]? = none ∨ ys[k2]? = none)
    (q : ∀ h', (∀ c o, c ≠ z → c ≠ TO → c ≠ i1 → c ≠ i2 → s.heap.get? c = some o → h'.get? c = some o) → Q none { s with heap := h' }) : wpAny (model prog w) A (pyNext (.ref z)) Q E s := by
  have ty : s.TypeIs (.ref z) "zip" := ⟨_, fz, rfl⟩
  unfold pyNext
  refine wpAny_bind (wpAny_attempt (wpAny_callSpecial?_slot (name := Str.ofString "__next__") ty F.slot_zip_next (wpAny_call_entry F.slot_zip_next ty F.entry_zip_next
    (next_end hh D fz fI fO f1 f2 g1 g2 en fun h' e hk ⟨o, ho, hc⟩ => ?_) (F.args_zip_next_1 _))))
  exact wpAny_bind (wpAny_isInstance (T := "StopIteration") (b := true) ⟨o, ho, hc⟩ isSubtype_stop (wpAny_pure (q _ hk)))
end
end ZM
namespace ZM
open PySem PySem.Spec PyProof.Rows L2 RZ
def nm (b : Bool) : String := match b with
  | true => "list_iterator"
  | false => "tuple_iterator"
section
variable {prog : Program} {w : World} {A : Around} {E : Value → Shared → Prop} {s : Shared}
theorem py_iter {b : Bool} {l : Addr} {xs : Array Value} {Q : Value → Shared → Prop} (h : Src b s.heap l xs) (q : Q (.ref s.heap.objs.size) { s with heap := s.heap.push { cls := .type (nm b), data := .fields #[.ref l, .int 0 0] } }) : wpAny (model prog w) A (pyIter (.ref l)) Q E s := by
  cases b with
  | false => exact wpAny_pyIter_tuple h q
  | true => exact wpAny_pyIter_list h q
theorem itr0 {b : Bool} {h : Heap} {i l : Addr} (e : h.get? i = some { cls := .type (nm b), data := .fields #[.ref l, .int 0 0] }) : Itr b h i l 0 := by
  cases b <;> exact ⟨_, e, rfl, rfl⟩
end
abbrev pile1 (b : Bool) (h : Heap) (l : Addr) : Heap := h.push { cls := .type (nm b), data := .fields #[.ref l, .int 0 0] }
abbrev pile3 (h0 h2 : Heap) (n : Nat) : Heap := h2.push { cls := .type "tuple", data := .seq #[.ref h0.objs.size, .ref n] }
abbrev pile4 (h : Heap) : Heap := h.push { cls := .type "tuple", data := .seq #[.none, .none] }
abbrev pile5 (h : Heap) (n3 n4 : Nat) : Heap := h.push { cls := .type "zip", data := .fields #[.none, .bool false, .bool false, .ref n3, .ref n4] }
abbrev two (b1 b2 : Bool) (h : Heap) (l1 l2 : Addr) : Heap := pile1 b2 (pile1 b1 h l1) l2
abbrev four (b1 b2 : Bool) (h : Heap) (l1 l2 : Addr) : Heap := pile4 (pile3 h (two b1 b2 h l1 l2) (pile1 b1 h l1).objs.size)
abbrev five (b1 b2 : Bool) (h : Heap) (l1 l2 : Addr) : Heap := pile5 (four b1 b2 h l1 l2) (two b1 b2 h l1 l2).objs.size (pile3 h (two b1 b2 h l1 l2) (pile1 b1 h l1).objs.size).objs.size
theorem zip_new (b1 b2 : Bool) (l1 l2 : Addr) (xs ys : Array Value) : Meets (Builtin.«zip.__new__» ⟨[.type "zip", .ref l1, .ref l2], []⟩)
    (fun _ R s => Src b1 s.heap l1 xs ∧ Src b2 s.heap l2 ys ∧ R (.ok (.ret (.ref (four b1 b2 s.heap l1 l2).objs.size))) { s with heap := five b1 b2 s.heap l1 l2 }) :=
  .of_wp fun prog w A R s h => by
    obtain ⟨hp, g, d, tk, os⟩ := s
    obtain ⟨k1, k2, k⟩ := h
    have hsub := sub_zip
    have K1 : Src b1 (Shared.heap ⟨hp, g, d, tk, os⟩) l1 xs := k1
    have K2 : Src b2 (Shared.heap ⟨pile1 b1 hp l1, g, d, tk, os⟩) l2 ys := k2.keep fun _ e => Heap.get?_push_of_some _ e
    wp_walk using py_iter K1, py_iter K2
    exact ⟨_, rfl, k⟩
section
variable {prog : Program} {w : World} {A : Around} {E : Value → Shared → Prop} {s : Shared}
theorem call_zip {b1 b2 : Bool} {l1 l2 : Addr} {xs ys : Array Value} {Q : Value → Shared → Prop} (k1 : Src b1 s.heap l1 xs) (k2 : Src b2 s.heap l2 ys)
    (q : ∀ h', IsZip h' (s.heap.objs.size + 4) (s.heap.objs.size + 2) (s.heap.objs.size + 3) .none → IsPair h' (s.heap.objs.size + 2) (.ref s.heap.objs.size) (.ref (s.heap.objs.size + 1)) → IsPair h' (s.heap.objs.size + 3) .none .none →
      Itr b1 h' s.heap.objs.size l1 0 → Itr b2 h' (s.heap.objs.size + 1) l2 0 → (∀ c o, s.heap.get? c = some o → h'.get? c = some o) → Q (.ref (s.heap.objs.size + 4)) { s with heap := h' }) :
    wpAny (model prog w) A (call (.type "zip") [.ref l1, .ref l2]) Q E s := by
  refine callType_new F.called_zip (by decide) (F.typeCall_zip_2 _ _) (F.newCall_zip_2 _ _) (fun obj => F.args_object_init_3 obj _ _) F.entry_zip_new (zip_new b1 b2 l1 l2 xs ys) ⟨k1, k2, ?_⟩
  have n1 : (pile1 b1 s.heap l1).objs.size = s.heap.objs.size + 1 := Heap.size_push ..
  have n2 : (two b1 b2 s.heap l1 l2).objs.size = s.heap.objs.size + 2 := (Heap.size_push ..).trans (by rw [n1])
  have n3 : (pile3 s.heap (two b1 b2 s.heap l1 l2) (pile1 b1 s.heap l1).objs.size).objs.size = s.heap.objs.size + 3 := (Heap.size_push ..).trans (by rw [n2])
  have n4 : (four b1 b2 s.heap l1 l2).objs.size = s.heap.objs.size + 4 := (Heap.size_push ..).trans (by rw [n3])
  have e5 : (five b1 b2 s.heap l1 l2).get? (four b1 b2 s.heap l1 l2).objs.size = some _ := Heap.get?_push_size _ rfl
  have e4 : (five b1 b2 s.heap l1 l2).get? (pile3 s.heap (two b1 b2 s.heap l1 l2) (pile1 b1 s.heap l1).objs.size).objs.size = some _ := Heap.get?_push_of_some _ (Heap.get?_push_size _ rfl)
  have e3 : (five b1 b2 s.heap l1 l2).get? (two b1 b2 s.heap l1 l2).objs.size = some _ := Heap.get?_push_of_some _ (Heap.get?_push_of_some _ (Heap.get?_push_size _ rfl))
  have e2 : (five b1 b2 s.heap l1 l2).get? (pile1 b1 s.heap l1).objs.size = some _ := Heap.get?_push_of_some _ (Heap.get?_push_of_some _ (Heap.get?_push_of_some _ (Heap.get?_push_size _ rfl)))
  have up : ∀ c o, s.heap.get? c = some o → (two b1 b2 s.heap l1 l2).get? c = some o := fun c o e => Heap.get?_push_of_some _ (Heap.get?_push_of_some _ e)
  have e1 : (five b1 b2 s.heap l1 l2).get? s.heap.objs.size = some _ := Heap.get?_push_of_some _ (Heap.get?_push_of_some _ (Heap.get?_push_of_some _ (Heap.get?_push_of_some _ (Heap.get?_push_size _ rfl))))
  show _ ∧ _
  rw [n2, n3, n4] at e5
  rw [n1, n2] at e3
  rw [n3] at e4
  rw [n1] at e2
  rw [n4]
  exact ⟨⟨_, e5, rfl⟩, q _ e5 e3 e4 (itr0 e1) (itr0 e2) fun c o e => Heap.get?_push_of_some _ (Heap.get?_push_of_some _ (Heap.get?_push_of_some _ (up c o e)))⟩
end
/-- a list (true) or a tuple (false) with these items -/
def SqS (K : PySem.W.Frag) (b : Bool) (H : Hp) (a : Addr) (xs : List V) : Prop := match b with
  | true => SqL K H a xs
  | false => SqT K H a xs
section
variable {X : Cx} {pins : List (Addr × Obj)} {σ : L2.St} {H : Hp} {s : Shared}
theorem src_of {b : Bool} {a : Addr} {xs : List V} (I : L2.Inv X pins σ H s) (h : SqS X.K b H a xs) : ∃ its : List Value, Vals xs its ∧ Src b s.heap a its.toArray := by
  cases b with
  | false =>
    obtain ⟨its, r, p, _⟩ := I.tuple h
    exact ⟨its, r, p⟩
  | true =>
    obtain ⟨its, r, p, _⟩ := I.list h
    exact ⟨its, r, p.isList⟩
theorem src_inj {b : Bool} {a : Addr} {xs ys : List V} (I : L2.Inv X pins σ H s) (h : SqS X.K b H a xs) (k : SqS X.K b H a ys) : xs = ys := by
  cases b with
  | false => exact I.tuple_inj h k
  | true => exact I.list_inj h k
end
/-- what stands at a and b at each turn, the items in new pairs -/
def ItM (K : PySem.W.Frag) (b1 b2 : Bool) (a b : Addr) : It :=
  ⟨fun i H => ∃ (xs ys : List V) (x y : V), SqS K b1 H a xs ∧ SqS K b2 H b ys ∧ xs[i]? = some x ∧ ys[i]? = some y,
    fun i H v H' => ∃ (T : Addr) (x y : V), v = .ref T ∧ H T = none ∧ H' = upd H T (.tup [x, y]) ∧ (∀ l, SqS K b1 H a l → l[i]? = some x) ∧ ∀ l, SqS K b2 H b l → l[i]? = some y,
    fun i H => ∃ (xs ys : List V), SqS K b1 H a xs ∧ SqS K b2 H b ys ∧ (xs.length ≤ i ∨ ys.length ≤ i)⟩
abbrev Pile (b1 b2 : Bool) (a b z TI TO i1 i2 : Addr) (i : Nat) (h : Heap) : Prop := IsZip h z TI TO .none ∧ IsPair h TI (.ref i1) (.ref i2) ∧ (∃ x y, IsPair h TO x y) ∧ Itr b1 h i1 a i ∧ Itr b2 h i2 b i
theorem five_of {c z TI TO i1 i2 : Addr} {p : Addr → Prop} (h : c ∈ [z, TI, TO, i1, i2]) (h1 : p z) (h2 : p TI) (h3 : p TO) (h4 : p i1) (h5 : p i2) : p c := by
  simp only [List.mem_cons, List.not_mem_nil, or_false] at h
  rcases h with rfl | rfl | rfl | rfl | rfl <;> assumption
theorem turn_zipM {P : Program} {w : World} {K : PySem.W.Frag} {b1 b2 : Bool} {elts : List Expr} {kk : Nat} {tpos : Pos} {a b z TI TO i1 i2 : Addr} (D : ZipApart z TI TO i1 i2 a b) : Turn P w K (.Tuple elts kk tpos) (ItM K b1 b2 a b) [z, TI, TO, i1, i2] z (Pile b1 b2 a b z TI TO i1 i2) where
  mem := List.mem_cons_self ..
  obj := fun i h st c hc => by
    obtain ⟨q1, q2, ⟨x, y, q3⟩, q4, q5⟩ := st
    obtain ⟨o1, e1, d1⟩ := q4.obj
    obtain ⟨o2, e2, d2⟩ := q5.obj
    exact five_of (p := fun c => ∃ o, h.get? c = some o ∧ ∀ v, o.data ≠ .cell v) hc ⟨_, q1, fun v q => nomatch q⟩ ⟨_, q2, fun v q => nomatch q⟩ ⟨_, q3, fun v q => nomatch q⟩ ⟨o1, e1, fun v q => by rw [d1] at q; cases q⟩ ⟨o2, e2, fun v q => by rw [d2] at q; cases q⟩
  keep := fun i h h' st k => by
    obtain ⟨q1, q2, ⟨x, y, q3⟩, q4, q5⟩ := st
    exact ⟨k z (by simp) _ q1, k TI (by simp) _ q2, ⟨x, y, k TO (by simp) _ q3⟩, q4.keep fun o => k i1 (by simp) o, q5.keep fun o => k i2 (by simp) o⟩
  item := by
    intro X hP hw hK hc i pins s σ H E I hf st go
    subst hP hw hK
    obtain ⟨q1, q2, ⟨x0, y0, q3⟩, q4, q5⟩ := st
    obtain ⟨xs, ys, x, y, k1, k2, hx, hy⟩ := go
    obtain ⟨its, rv, p1⟩ := src_of I k1
    obtain ⟨jts, rw', p2⟩ := src_of I k2
    obtain ⟨u, hu, ru⟩ := rv.get hx
    obtain ⟨v, hv, rv'⟩ := rw'.get hy
    have lz : z < s.heap.objs.size := Heap.lt_size q1
    have low : ∀ c ∈ [z, TI, TO, i1, i2], c < s.heap.objs.size := fun c hc => by
      obtain ⟨_, e1, _⟩ := q4.obj
      obtain ⟨_, e2, _⟩ := q5.obj
      exact five_of (p := fun c => c < s.heap.objs.size) hc lz (Heap.lt_size q2) (Heap.lt_size q3) (Heap.lt_size e1) (Heap.lt_size e2)
    have far : ∀ {c d : Addr}, d ∈ [z, TI, TO, i1, i2] → ¬ c ∈ [z, TI, TO, i1, i2] → c ≠ d := fun hd hc n => hc (n ▸ hd)
    refine py_item D q1 q2 q3 q4 q5 p1 p2 (x := u) (y := v) (by simpa using hu) (by simpa using hv) fun h' z' t' m1 m2 pT sz kp => ⟨_, rfl, wpAny_letOwnedTupleGo_zip (s := { s with heap := h' }) z' fun h2 z2 s2 => ?_⟩
    have pT2 : h2.get? s.heap.objs.size = some { cls := .type "tuple", data := .seq #[u, v] } := (s2.2 _ (Nat.ne_of_gt lz)).trans pT
    have fresh : ObjOk X.prog X.w (upd H s.heap.objs.size (.tup [x, y])) h2 s.heap.objs.size (.tup [x, y]) := ⟨by show 2 ≤ sizeLine; decide, [u, v], .cons ru (.cons rv' .nil), ⟨_, pT2, rfl, _, rfl⟩⟩
    have J : L2.Inv X pins σ (upd H s.heap.objs.size (.tup [x, y])) { s with heap := h2 } := I.turnedNew (t' := s.toks) (ch := [z, TI, TO, i1, i2])
      (fun c o hb q => (s2.2 c (far (by simp) hb)).trans (kp c o (far (by simp) hb) (far (by simp) hb) (far (by simp) hb) (far (by simp) hb) q)) hf (Nat.le_refl _) fresh
    refine ⟨.ref s.heap.objs.size, _, J, rfl, ⟨_, x, y, rfl, I.hok.fresh (Nat.le_refl _), rfl, fun l hl => by rw [src_inj I hl k1]; exact hx, fun l hl => by rw [src_inj I hl k2]; exact hy⟩, ⟨z2, ?_, ⟨u, v, ?_⟩, ?_, ?_⟩, fun c hcm => ?_⟩
    · exact (s2.2 _ D.TIz).trans (kp _ _ D.TIz D.TITO D.TIi1 D.TIi2 q2)
    · exact (s2.2 _ D.TOz).trans t'
    · exact m1.keep fun o q => (s2.2 _ D.i1z).trans q
    · exact m2.keep fun o q => (s2.2 _ D.i2z).trans q
    · rw [upd_ne (Nat.ne_of_lt (low c hcm))]
      exact (hf c hcm).1
  done := by
    intro X hP hw hK hc i pins s σ H E I hf st stop
    subst hP hw hK
    obtain ⟨q1, q2, ⟨x0, y0, q3⟩, q4, q5⟩ := st
    obtain ⟨xs, ys, k1, k2, en⟩ := stop
    obtain ⟨its, rv, p1⟩ := src_of I k1
    obtain ⟨jts, rw', p2⟩ := src_of I k2
    have n1 := rv.length
    have n2 := rw'.length
    have en' : its.toArray[i]? = none ∨ jts.toArray[i]? = none := en.imp (fun q => by simp; omega) fun q => by simp; omega
    have far : ∀ {c d : Addr}, d ∈ [z, TI, TO, i1, i2] → ¬ c ∈ [z, TI, TO, i1, i2] → c ≠ d := fun hd hc n => hc (n ▸ hd)
    exact py_end (I.ok.hd hc) D q1 q2 q3 q4 q5 p1 p2 en' fun h' kp => ⟨rfl, I.turnedL (t' := s.toks) (ch := [z, TI, TO, i1, i2]) (fun c o hb q => kp c o (far (by simp) hb) (far (by simp) hb) (far (by simp) hb) (far (by simp) hb) q) hf⟩
  self := fun A i s Q E st h => wpAny_pyIter_zip st.1 h
/-- zip of a list and a tuple, in this order (true, false) or the other one -/
def iZipM (K : PySem.W.Frag) (b1 b2 : Bool) (ta : TA) : TI := fun σ H R => ta σ H fun vs H1 => ∃ (a b : Addr) (xs ys : List V), vs = [.ref a, .ref b] ∧ SqS K b1 H1 a xs ∧ SqS K b2 H1 b ys ∧ R (ItM K b1 b2 a b) H1
theorem pi_zipM {X : Cx} (b1 b2 : Bool) {e e2 : Expr} {ta : TA} {p pos tpos : Pos} {elts : List Expr} {kk : Nat} (hg : Gl X "zip") (hm : X.mg "zip" = none) (ha : PA X [e, e2] ta)
    (hs : starEach [e, e2] X.env = (false, eval e X.env) :: starEach [e2] X.env := by rfl) (hpl : (backTo pos (starEach [e2] X.env)).any (·.1) = false := by rfl) :
    PI X (.Tuple elts kk tpos) (.Call (.Name "zip" p) [e, e2] [] pos) (iZipM X.K b1 b2 ta) := by
  refine ⟨fun pins s σ H R I h => Call_ (ld_blt I hg hm PyProof.Rows.boot_zip (PyProof.Rows.callWith_type1 (thn (ha.run pos pins s σ H _ I h) fun us s1 ⟨vs, H1, J, r1, q1⟩ => ?_) hs hpl))⟩
  obtain ⟨a, b, xs, ys, rfl, k1, k2, q⟩ := q1
  cases r1 with
  | cons ra rr => cases rr with
    | cons rb rr =>
      cases rr
      cases ra
      cases rb
      obtain ⟨its, rv, p1⟩ := src_of J k1
      obtain ⟨jts, rw', p2⟩ := src_of J k2
      have fresh : ∀ c, c ∈ [s1.heap.objs.size + 4, s1.heap.objs.size + 2, s1.heap.objs.size + 3, s1.heap.objs.size, s1.heap.objs.size + 1] → FpOk X pins H1 c := fun c hcm => by
        have up : s1.heap.objs.size ≤ c := five_of (p := fun c => s1.heap.objs.size ≤ c) hcm (by omega) (by omega) (by omega) (Nat.le_refl _) (by omega)
        exact J.fpOk up (J.hok.fresh up)
      refine call_zip p1 p2 fun h' f1 f2 f3 f4 f5 kp => wpAny_pyIter_zip f1 ?_
      have J2 : L2.Inv X pins σ H1 { s1 with heap := h' } := J.kept (t' := s1.toks) kp
      exact ⟨s1.heap.objs.size + 4, [s1.heap.objs.size + 4, s1.heap.objs.size + 2, s1.heap.objs.size + 3, s1.heap.objs.size, s1.heap.objs.size + 1], _, _, H1, rfl, J2, turn_zipM (PySem.W.ktu_apart s1.heap.objs.size a b p1.lt p2.lt), ⟨f1, f2, ⟨_, _, f3⟩, f4, f5⟩, fresh, q⟩
end ZM

/-! sorted(s), s a set of whole numbers, any number of them; set(l), l a list of up to a thousand. -/
namespace Z
open PySem PySem.Spec PyProof.Rows L2
section
variable {X : Cx}
/-- sorted(s), up to a thousand members -/
def rSortBig (w : World) : List V → Hp → VK → Prop := fun vs H Q => ∃ (a : Addr) (S : Int → Bool) (n : Nat), vs = [V.ref a] ∧ H a = some (SetO w a S n) ∧ n ≤ 1000 ∧
  ∀ (ns : List Int) (p : Addr), ns.Pairwise (· < ·) → (∀ k : Int, k ∈ ns ↔ S k = true) → ns.length = n → H p = none → Q (.ref p) (upd H p (.lst (ns.map V.int)))
theorem cr_sortBig (hc : X.calm = true) : CallR X (.builtin "sorted") (rSortBig X.w) := by
  intro pins s σ H vs us Q I r h
  obtain ⟨a, S, n, rfl, ha, hb, q⟩ := h
  obtain ⟨o, es, ep, t, ho, hex, hd, good, nd, mem, small, fits, cnt, ris, led⟩ := setO_get I ha
  rw [Vals.ref1 r]
  refine Calls.call_function_entry kind_sorted plain_sorted entry_sorted (args_sorted1 _) (show wpAny _ _ (Builtin.«sorted» ⟨[.ref a], []⟩) _ _ _ from ?_)
  unfold Builtin.«sorted»
  refine wpAny_bind (m := checkCount "sorted" 1 1 _) (wpAny_pure (wpAny_bind (collect_set (A := X.A.in1) (I.ok.hd hc) ⟨o, ho, hex.1, hd⟩ fits small ris led fun s1 out1 kept grown gens os perm => ?_)))
  have len1 : out1.length = n := by
    have e := perm.length_eq
    rw [List.length_map] at e
    exact e.trans cnt
  have whole : IntsAre out1 (out1.map Builtin.Re.reRawOf) := ints_of out1 fun v hv => by
    obtain ⟨e, he, ev⟩ := List.mem_map.mp (perm.mem_iff.mp hv)
    obtain ⟨k, tk, hk, _⟩ := good e he
    exact ⟨k, tk, ev ▸ hk⟩
  have raw : (out1.map Builtin.Re.reRawOf).Perm (es.toList.map keyOf) := by
    have e := perm.map Builtin.Re.reRawOf
    rwa [List.map_map] at e
  have fit : out1.length ≤ sizeLine := (len1 ▸ Nat.le_trans hb (by decide) : out1.length ≤ sizeLine)
  have top : (s1.heap.push (seqObj "list" out1.toArray 0)).get? s1.heap.objs.size = some (seqObj "list" out1.toArray 0) := Heap.get?_push_size _ rfl
  refine wpAny_bind (wpAny_newList ?_ fit)
  refine wpAny_bind (wpAny_holding (wpAny_call_entry PyProof.Rows.slot_list_sort ⟨_, top, rfl⟩ PyProof.Rows.entry_list_sort (SrtO.list_sort_ord SrtO.swo_int top fit (fun two => SrtO.ints_sortable whole two) fun out sorted stable => ⟨_, rfl, ?_⟩) (PyProof.Rows.args_list_sort _)))
  obtain ⟨i1, i2, i3⟩ := SrtO.ints_out whole sorted stable
  obtain ⟨c, there⟩ := PyProof.Rows.sortedHeap_at (vs := out1) (out := out.toArray) top
  have all := i2.trans raw
  have asc := lt_of_le_nodup _ i3 (all.nodup_iff.mpr nd)
  have cnt2 : (out.map SrtO.iv).length = n := by rw [all.length_eq, List.length_map, Array.length_toList, cnt]
  have lb : ((out.map SrtO.iv).map V.int).length ≤ sizeLine := by rw [List.length_map]; exact cnt2 ▸ Nat.le_trans hb (by decide)
  have free : H s1.heap.objs.size = none := I.hok.fresh grown
  have old : ∀ b u, s.heap.get? b = some u → (PyProof.Rows.sortedHeap (s1.heap.push (seqObj "list" out1.toArray 0)) s1.heap.objs.size out1 out.toArray).get? b = some u := fun b u e => by
    have there2 := kept b u e
    have lt := Heap.lt_size there2
    rw [PyProof.Rows.sortedHeap_old (Nat.ne_of_lt lt) (by rw [size_push']; exact Nat.lt_succ_of_lt lt)]
    exact Heap.get?_push_of_some _ there2
  refine wpAny_pure ⟨_, rfl, ?_⟩
  have same : ({ s1 with heap := PyProof.Rows.sortedHeap (s1.heap.push (seqObj "list" out1.toArray 0)) s1.heap.objs.size out1 out.toArray } : Shared) =
      { s with heap := PyProof.Rows.sortedHeap (s1.heap.push (seqObj "list" out1.toArray 0)) s1.heap.objs.size out1 out.toArray, gens := s1.gens, drawn := s1.drawn, toks := s1.toks } := by
    cases s1
    cases s
    cases os
    rfl
  rw [same]
  have J := I.call (ch := []) (g' := s1.gens) (d' := s1.drawn) (t' := s1.toks) (Un.laid old grown free) (I.hok.laid (o := .lst ((out.map SrtO.iv).map V.int)) old grown ⟨lb, out, c, vals_of_ints i1, there⟩) (by rw [gens]; exact I.bare) (fun _ z => nomatch z)
  exact ⟨.ref _, _, J, rfl, q _ _ asc (fun k => by rw [all.mem_iff, ← mem k]) cnt2 free⟩
end
end Z

/-! set(l), l a list of whole numbers. -/
namespace Z
open PySem PySem.Spec PyProof.Rows L2
/-- a set as it is made -/
abbrev freshS (w : World) : Obj := { cls := .type "set", dict := none, data := .set #[] 0 (.fresh 0 0 (!w.params.followText "set-order")) }
/-- what set.__init__ leaves -/
def SetEnd (w : World) (ns : List Int) (s : Shared) (r : Value) (z : Shared) : Prop :=
  r = .none ∧ ∃ h' tk c, z = { s with heap := h', toks := tk } ∧ SetR w h' s.heap.objs.size (fun j => decide (j ∈ ns)) c ∧ c ≤ ns.length ∧ ∀ b o, s.heap.get? b = some o → h'.get? b = some o
section
variable {P : Program} {w : World} {A : Around} {E : Value → Shared → Prop} {s : Shared}
set_option maxHeartbeats 3200000 in
theorem set_of_list {l : Addr} {items : Array Value} (ns : List Int) {Q : Value → Shared → Prop} (hh : A.handled = none) (hl : s.heap.IsList l items) (hit : IntsAre items.toList ns) (hb : ns.length + 1 < scanBound)
    (h : ∀ (h' : Heap) (tk c : Nat), SetR w h' s.heap.objs.size (fun j => decide (j ∈ ns)) c → c ≤ ns.length → (∀ b o, s.heap.get? b = some o → h'.get? b = some o) → Q (.ref s.heap.objs.size) { s with heap := h', toks := tk }) :
    wpAny (model P w) A (call (.type "set") [.ref l]) Q E s := by
  have cnt : items.size = ns.length := by
    rw [← Array.length_toList]
    exact IntsAre.length hit
  have d1 := F.called_set.made
  have d2 := F.called_set.sub
  have d3 := F.called_set.notType
  have d4 := F.called_set.canCreate
  have d5 := F.typeCall_set_1 (.ref l)
  obtain ⟨c, tl, d6⟩ := F.called_set.mro
  refine wpAny_call (codeAny_of_tree (show wpAny _ _ (callAny (.type "set") _) _ _ _ from wpAny_pure ⟨Code.quiet_builtin _ (by decide +kernel), codeAny_builtin F.entry_type_call ?_⟩))
  rw [Around.under_plain (weight_type_call_type "set" [.ref l] []) rfl]
  repeat (any_goals (first | assumption | wp_step))
  refine codeAny_mono (code_set_led1 (.ref l) (E := E) (Q₁ := fun v z => v = .ref s.heap.objs.size ∧ z = { s with heap := s.heap.push (freshS w) }) ⟨rfl, rfl⟩) fun r z hr => ?_
  cases r with
  | error e => exact hr
  | ok fl =>
    cases fl with
    | ret v =>
      obtain ⟨rfl, rfl⟩ := hr
      have there : (s.heap.push (freshS w)).get? s.heap.objs.size = some (freshS w) := Heap.get?_push_size _ rfl
      have isSet : Shared.TypeIs { s with heap := s.heap.push (freshS w) } (.ref s.heap.objs.size) "set" := ⟨_, there, rfl⟩
      have d7 := F.called_set.init.lookup
      have d8 := F.called_set.init.bind (.ref s.heap.objs.size)
      repeat (any_goals (first | assumption | wp_step))
      refine codeAny_mono (codeAny_call_builtin (R := wants (SetEnd w ns s) E) F.called_set.init.plain F.entry_set_init (check_set_init_1 isSet ?_)) fun r2 z2 hr2 => ?_
      · obtain ⟨⟨q1, q2, q3, q4⟩, got, k1, nn, k2⟩ := hl
        simp only at k1 k2
        subst k1 k2
        have got2 : (s.heap.push (freshS w)).get? l = some { cls := .type "list", dict := q2, data := .seq items nn, slots := q4 } := Heap.get?_push_of_some _ got
        have e1 := F.sub_list_set
        have e2 := F.sub_list_frozenset
        have e3 : (Value.type "list" == Value.type "dict") = false := by decide
        have isL : (s.heap.push (freshS w)).IsList l items := ⟨_, got2, rfl, nn, rfl⟩
        unfold Builtin.«set.__init__» noKeywords Builtin.Frozenset.updateFrom
        generalize hit2 : pyIter = it2
        wp_walk
        subst hit2
        have lts : l < s.heap.objs.size := Heap.lt_size got
        have sz : (s.heap.push (freshS w)).objs.size = s.heap.objs.size + 1 := Heap.size_push ..
        have calm3 : A.in1.in1.in1.handled = none := by simp [hh]
        have apart : l ≠ (s.heap.push (freshS w)).objs.size := sz ▸ Nat.ne_of_lt (Nat.lt_succ_of_lt lts)
        have out : s.heap.objs.size ∉ [(s.heap.push (freshS w)).objs.size, l] := fun hm => by
          simp only [List.mem_cons, List.not_mem_nil, or_false] at hm
          rcases hm with z | z
          · exact Nat.ne_of_lt (Nat.lt_succ_self _) (z.trans sz)
          · exact Nat.ne_of_gt lts z
        refine wpAny_pyIter_list isL (wpAny_bind (wpAny_runValue ?_))
        refine set_update_ints ((Walks.list calm3 _ l apart items).toS) s.heap.objs.size out ns cnt hb (fun i v hv => ?_) (items.size - 0) 0 _ (by omega) (Nat.zero_le _) ⟨⟨_, Heap.get?_push_size _ rfl, rfl, rfl⟩, isL.push _⟩ ⟨0, Nat.le_refl 0, setR_new_at (Heap.get?_push_of_some _ there)⟩ fun z3 c3 mv hc3 hS3 => ?_
        · have lt : i < ns.length := cnt ▸ (Array.getElem?_eq_some_iff.mp hv).1
          obtain ⟨t, e⟩ := PyProof.Rows.IntsAre.int_at hit i v (Array.getElem?_toList .. ▸ hv)
          have e4 : ns[i]? = some ns[i] := List.getElem?_eq_getElem lt
          exact ⟨ns[i], t, e4, by rw [e, List.getD_eq_getElem?_getD, e4] <;> rfl⟩
        · have eg := mv.gens
          have ed := mv.drawn
          have eo := mv.os
          obtain ⟨h3, g3, d3', t3, o3⟩ := z3
          simp only at eg ed eo
          subst eg ed eo
          refine wpAny_pure (show wpAny _ _ (ret Value.none) _ _ _ from wpAny_pure ⟨rfl, h3, t3, c3, rfl, hS3, cnt ▸ hc3, fun b o e => ?_⟩)
          have ltb := Heap.lt_size e
          refine mv.heap b o (fun hm => ?_) (Heap.get?_push_of_some _ (Heap.get?_push_of_some _ e))
          simp only [List.mem_cons, List.not_mem_nil, or_false] at hm
          rcases hm with z | z
          · exact Nat.ne_of_lt ltb z
          · exact Nat.ne_of_lt (Nat.lt_succ_of_lt ltb) (z.trans sz)
      · cases r2 with
        | error e => exact hr2
        | ok fl2 =>
          cases fl2 with
          | ret v2 =>
            obtain ⟨rfl, h', tk, c', rfl, q1, q2, q3⟩ := hr2
            repeat (any_goals (first | assumption | wp_step))
            exact h _ _ _ q1 q2 q3
          | _ => exact hr2.elim
    | _ => exact hr.elim
end
section
variable {X : Cx}
def rSetL (K : PySem.W.Frag) (w : World) : List V → Hp → VK → Prop := fun xs H Q => ∃ (p : Addr) (ns : List Int), xs = [.ref p] ∧ SqL K H p (ns.map V.int) ∧ ns.length ≤ 1000 ∧ ∀ a c, H a = none → c ≤ ns.length → Q (.ref a) (upd H a (SetO w a (fun j => decide (j ∈ ns)) c))
theorem cr_setL (hc : X.calm = true) : CallR X (.type "set") (rSetL X.K X.w) := by
  intro pins s σ H xs us Q I r h
  obtain ⟨p, ns, rfl, hs, hn, q⟩ := h
  rw [Vals.ref1 r]
  obtain ⟨its, v1, v2, v3⟩ := I.list hs
  refine set_of_list ns (I.ok.hd hc) v2.isList v1.ints (by show ns.length + 1 < scanBound; exact Nat.lt_of_le_of_lt (Nat.succ_le_succ hn) (by decide)) fun h' tk c hS hle hk => ?_
  exact ⟨.ref _, _, I.laid (t' := tk) (o := SetO X.w s.heap.objs.size (fun j => decide (j ∈ ns)) c) hk (Nat.le_refl _) (setO_new hS), rfl, q _ c (I.hok.fresh (Nat.le_refl _)) hle⟩
/-- set of a list or of a tuple -/
def rSetA (K : PySem.W.Frag) (w : World) : List V → Hp → VK → Prop := fun xs H Q => rSetT K w xs H Q ∨ rSetL K w xs H Q
theorem cr_setA (hc : X.calm = true) : CallR X (.type "set") (rSetA X.K X.w) := fun pins s σ H xs us Q I r h => h.elim (cr_setT hc pins s σ H xs us Q I r) (cr_setL hc pins s σ H xs us Q I r)
end
end Z

/-! a set comprehension of whole numbers. -/
namespace Z
open PySem PySem.Spec PyProof.Rows L2
section
variable {X : Cx}
/-- one turn of the comprehension: the number is put into the set at D -/
def putS (w : World) (D : Addr) (N : Hp → Prop) : VK := fun y H => ∃ (c : Int) (S : Int → Bool) (n : Nat), y = .int c ∧ H D = some (SetO w D S n) ∧ n + 1 < scanBound ∧ N (upd H D (SetO w D (fun j => S j || decide (j = c)) (if S c = true then n else n + 1)))
/-- {elt for target in iter if ..}, elt a whole number: D the new set -/
def tScI (w : World) (wi : TI) (g : TG) (tt : TT) (te : TE) (vs : List Nat) : TE := fun σ H Q => wi σ H fun J H1 => ∀ D, H1 D = none → ∃ W : Nat → Nat → Hp → Prop, (∃ m, W 0 m (upd H1 D (SetO w D (fun _ => false) 0))) ∧ ∀ i m H, W i m H →
  (J.stop i H ∧ Q (.ref D) H) ∨ (J.go i H ∧ ∃ N : Hp → Prop, (∀ H', N H' → ∃ m', m' < m ∧ W (i + 1) m' H') ∧ ∀ x H', J.yld i H x H' → g x (wipe σ vs) H' fun σ2 H2 => wipe σ2 vs = wipe σ vs ∧ tt σ2 H2 fun b H3 => if b = true then te σ2 H3 (putS w D N) else N H3)
theorem add_ok {pins : List (Addr × Obj)} {σ : L2.St} {H : Hp} {s : Shared} {E : Value → Shared → Prop} {D : Addr} {S : Int → Bool} {n : Nat} {c : Int} {tk : Tok} {Q : Value → Shared → Prop} (I : L2.Inv X pins σ H s) (hD : H D = some (SetO X.w D S n)) (room : n + 1 < scanBound)
    (q : ∀ s', L2.Inv X pins σ (upd H D (SetO X.w D (fun j => S j || decide (j = c)) (if S c = true then n else n + 1))) s' → Q .none s') : wpAny (model X.prog X.w) X.A (call (.builtin "set.add") [.ref D, .int c tk]) Q E s :=
  setR_add (setO_get I hD) room fun h' sb new => q _ (I.write (e := D) (t' := s.toks + 1) (by rw [hD]; trivial) (.inl rfl) (fun b u hb hu => (sb.2 b hb).trans hu) (by
    obtain ⟨o, _, _, _, ho, _⟩ := id new
    exact ⟨o, ho⟩) (setO_new new))
theorem pe_scI {elt tg iter : Expr} {ifs : List Expr} {scope : Scope} {own : List (Str × Nat)} {pos : Pos} {wi : TI} {g : TG} {tt : TT} {te : TE} (hc : X.calm = true) (hN : X.N.Nodup) (hi : PI X tg iter wi) (ok : BlkOk X.N X.env.scope scope own)
    (hg : ∀ (s : Shared) (H : Hp) (C : Addr) (cl : List (Str × Addr)) (fp : List Addr), PG (X.blk s H scope (compEnvC scope cl C X.env) fp) tg g)
    (ht : ∀ (s : Shared) (H : Hp) (C : Addr) (cl : List (Str × Addr)) (fp : List Addr), PTs (X.blk s H scope (compEnvC scope cl C X.env) fp) ifs tt)
    (he : ∀ (s : Shared) (H : Hp) (C : Addr) (cl : List (Str × Addr)) (fp : List Addr), PE (X.blk s H scope (compEnvC scope cl C X.env) fp) elt te)
    (hs : ∀ x, foldedSetIterable iter X.env x = pure x := by intro _; rfl) : PE X (.SetComp elt [⟨tg, iter, ifs, 0⟩] scope pos) (tScI X.w wi g tt te (own.map (·.2))) := by
  refine ⟨fun pins s σ H Q I h => ?_⟩
  rw [PpSet.eval_SetComp]
  have free : ∀ y ∈ scope.names, y.2 = .free → ∃ c, X.env.cells.lookup y.1 = some c := fun y hy e => (ok.free y hy e).elim (fun k => I.ok.has _ (.inl k)) fun k => I.ok.has _ (.inr k)
  refine wpAny_comprehension_free rfl hs (closure_ok free) ok.kind (fun y hy e => by rw [ok.uniq y hy, e]) (thn (hi.run pins s σ H _ I h) fun xv s1 hx => thn hx fun itv s2 h2 => ?_)
  obtain ⟨it, fp, tn, J, H2, rfl, I2, T, t2, f2, q⟩ := h2
  refine PpSet.newSet_ok (newEnv_comp ?_)
  generalize hD : s2.heap.objs.size = D
  obtain ⟨W, ⟨m0, w0⟩, turn⟩ := q D (I2.hok.fresh (Nat.le_of_eq hD))
  generalize hs3 : ({ s2 with heap := s2.heap.push { cls := .type "set", dict := none, data := .set #[] 0 (.fresh 0 0 (!X.w.params.followText "set-order")) } } : Shared) = s3
  have h3 : s3.heap = s2.heap.push { cls := .type "set", dict := none, data := .set #[] 0 (.fresh 0 0 (!X.w.params.followText "set-order")) } := by rw [← hs3]
  generalize hH3 : upd H2 D (SetO X.w D (fun _ => false) 0) = H3 at w0
  have I3 : L2.Inv X pins σ H3 s3 := by
    rw [← hs3, ← hH3]
    refine I2.laid (t' := s2.toks) (fun b o e => Heap.get?_push_of_some _ e) (Nat.le_of_eq hD) ?_
    rw [← hD]
    exact setO_new (setR_fresh X.w)
  have f3 : ∀ b ∈ fp, FpOk X pins H3 b ∧ b < s3.heap.objs.size := fun b hb => by
    obtain ⟨o, e, _⟩ := T.obj _ _ t2 b hb
    have lt := Heap.lt_size e
    refine ⟨⟨?_, (f2 b hb).2⟩, by rw [h3, Heap.size_push]; exact Nat.lt_succ_of_lt lt⟩
    rw [← hH3, upd_ne (by rw [← hD]; exact Nat.ne_of_lt lt)]
    exact (f2 b hb).1
  have t3 : tn 0 s3.heap := T.keep _ _ _ t2 fun b _ o e => by rw [h3]; exact Heap.get?_push_of_some _ e
  have I4 := block_start I3 ok hN f3
  have pg := hg s3 H3 s3.heap.objs.size (cellsFrom (s3.heap.objs.size + 1) scope.names (cloFrom X.env.cells scope.names [])) fp
  have pt := ht s3 H3 s3.heap.objs.size (cellsFrom (s3.heap.objs.size + 1) scope.names (cloFrom X.env.cells scope.names [])) fp
  have pe := he s3 H3 s3.heap.objs.size (cellsFrom (s3.heap.objs.size + 1) scope.names (cloFrom X.env.cells scope.names [])) fp
  generalize hce : compEnvC scope (cellsFrom (s3.heap.objs.size + 1) scope.names (cloFrom X.env.cells scope.names [])) s3.heap.objs.size X.env = ce at I4 pg pt pe
  have cL : ce.locals = s3.heap.objs.size := by rw [← hce]; rfl
  have goal : codeAny (model X.prog X.w) X.A (.compStart (.SetComp elt [⟨tg, iter, ifs, 0⟩] scope pos) 0 (.ref it) (.ref D) ce) (compPost (model X.prog X.w) X.A X.xe none (EP X pins σ Q) (.ref D) s3.heap.objs.size) { s3 with heap := pushCells (s3.heap.push { cls := .type "dict", data := .dict #[] }) scope.names } := by
    have t4 : tn 0 (pushCells (s3.heap.push { cls := .type "dict", data := .dict #[] }) scope.names) := T.keep _ _ _ t3 fun b _ o e => pushCells_keeps _ _ _ _ (Heap.get?_push_of_some _ e)
    have t4' : tn 0 ({ s3 with heap := pushCells (s3.heap.push { cls := .type "dict", data := .dict #[] }) scope.names } : Shared).heap := t4
    generalize ({ s3 with heap := pushCells (s3.heap.push { cls := .type "dict", data := .dict #[] }) scope.names } : Shared) = s4 at I4 t4' ⊢
    have away : ∀ b ∈ fp, H3 b = none := fun b hb => (f3 b hb).1.1
    have still : ∀ {σ' : L2.St} {H' : Hp} {s' : Shared}, L2.Inv (X.blk s3 H3 scope ce fp) [] σ' H' s' → (∀ b ∈ fp, H' b = none) → ∀ b ∈ fp, FpOk (X.blk s3 H3 scope ce fp) [] H' b := fun I' hn b hb =>
      ⟨hn b hb, (I'.ok.exf b hb).1, I'.ok.exfs b hb, .inl hb, fun x c e => (I'.ok.exf b hb).2 x c e, fun p hp => nomatch (show p ∈ ([] : List (Addr × Obj)) from hp)⟩
    have loop : codeAny (model X.prog X.w) X.A (.compLoop (.SetComp elt [⟨tg, iter, ifs, 0⟩] scope pos) 0 (.ref it) (.ref D) ce) (compPost (model X.prog X.w) X.A X.xe none (EP X pins σ Q) (.ref D) s3.heap.objs.size) s4 := by
      refine PpSet.compLoopS_any (fun n s' => ∃ i H', L2.Inv (X.blk s3 H3 scope ce fp) [] (wipe σ (own.map (·.2))) H' s' ∧ tn i s'.heap ∧ (∀ b ∈ fp, H' b = none) ∧ W i n H') ?_ m0 ⟨0, H3, I4, t4', away, w0⟩
      rintro n s5 ⟨i, H5, I5, t5, n5, w5⟩
      rcases turn i n H5 w5 with ⟨stop, last⟩ | ⟨go, N, down, step⟩
      · refine thnF (T.done (X.blk s3 H3 scope ce fp) rfl rfl rfl hc i [] s5 _ H5 (fun _ _ => False) I5 (still I5 n5) t5 stop) fun r s6 ⟨hr, I6⟩ => ?_
        subst hr
        have I7 : L2.Inv X pins σ H5 s6 := I3.call' (ch := fp) I6.os I6.base I6.hok I6.bare fun b hb => by
          obtain ⟨_, k1, k2, k3, k4, k5⟩ := (f3 b hb).1
          exact ⟨k3, k1, k4, k5⟩
        have nC : H5 s3.heap.objs.size = none := cL ▸ I6.free
        obtain ⟨m, hn, _⟩ := I6.loc
        replace hn : s6.heap.Ns s3.heap.objs.size m := by
          rw [← cL]
          exact hn
        obtain ⟨g0, g1, g2, g3, g4, g5⟩ := I3.fpOk (Nat.le_refl _) nC
        exact ⟨m, hn, fun h'' sb => ⟨.ref D, H5, I7.turned (t' := s6.toks) (fun b o hb e => (sb.2 b hb).trans e) nC g1 g3 g4 g5, rfl, last⟩⟩
      · refine thnF (T.item (X.blk s3 H3 scope ce fp) rfl rfl rfl hc i [] s5 _ H5 (fun _ _ => False) I5 (still I5 n5) t5 go) fun r s6 ⟨u, hr, h6⟩ => ?_
        subst hr
        refine thnF h6 fun _ s7 ⟨x, H7, I7, r7, y7, t7, n7⟩ => ?_
        have P7 := I7.pinned (still I7 n7) (T.obj _ _ t7)
        refine thnF (pg.run _ s7 _ H7 x u _ P7 r7 (step x H7 y7)) fun _ s8 ⟨σ8, H8, I8, hw8, q8⟩ => thnF (pt.run _ s8 σ8 H8 _ I8 q8) fun b s9 ⟨H9, I9, q9⟩ => ?_
        have next : ∀ {s' : Shared} {H' : Hp}, L2.Inv (X.blk s3 H3 scope ce fp) ([] ++ pinsAt fp s7.heap) σ8 H' s' → N H' → ∃ m, m < n ∧ ∃ i H', L2.Inv (X.blk s3 H3 scope ce fp) [] (wipe σ (own.map (·.2))) H' s' ∧ tn i s'.heap ∧ (∀ b ∈ fp, H' b = none) ∧ W i m H' := fun {s' H'} I' nx => by
          obtain ⟨m', hm, w'⟩ := down H' nx
          have pinned : ∀ b ∈ fp, ∀ o, s7.heap.get? b = some o → s'.heap.get? b = some o ∧ H' b = none := fun b hb o e =>
            have z := I'.pin (b, o) (List.mem_append_right _ (List.mem_append_right _ (mem_pinsAt hb e)))
            ⟨z.1, z.2.1⟩
          refine ⟨m', hm, i + 1, H', (I'.unpinned (pins := [])).weak (by rw [← hw8, wipe_length]) (fun j v e => ?_), T.keep _ _ _ t7 fun b hb o e => (pinned b hb o e).1, fun b hb => ?_, w'⟩
          · rw [← hw8] at e
            exact (wipe_some e).1
          · obtain ⟨o, e, _⟩ := T.obj _ _ t7 b hb
            exact (pinned b hb o e).2
        cases b with
        | false => exact next I9 q9
        | true =>
          refine thnF (pe.run _ s9 σ8 H9 _ I9 q9) fun z s10 ⟨yv, H10, I10, r10, c, S0, n0, ey, f10, z10, nx⟩ => ?_
          subst ey
          obtain ⟨tk, rfl⟩ := r10
          exact add_ok (X := X.blk s3 H3 scope ce fp) I10 f10 z10 fun s11 I11 => next I11 nx
    exact PpSet.codeAny_compStart_set loop (T.self X.A 0 _ _ _ t4' loop)
  rw [← hce] at goal
  exact goal
end
end Z

/-! comprehensions with two loops; a set of whole numbers; walks over zip of a list and a tuple. -/
namespace Z
open PySem PySem.Spec PyProof.Rows L2
/-- a block within a block -/
theorem lookup_relabel {env : Env} : ∀ {names : List (Str × NameKind)} {x : Str} {k : NameKind}, names.lookup x = some k → (k = .cell ∨ k = .free) →
    (names.map fun (n, k) => if (k == NameKind.free && env.scope.kind == .function && env.kindOf n == some .cell) then (n, NameKind.cell) else (n, k)).lookup x = some .cell ∨
    (names.map fun (n, k) => if (k == NameKind.free && env.scope.kind == .function && env.kindOf n == some .cell) then (n, NameKind.cell) else (n, k)).lookup x = some .free
  | [], x, k, h, _ => by simp at h
  | (n, k0) :: r, x, k, h, hk => by
    simp only [List.map_cons]
    by_cases hx : (x == n) = true
    · have hk0 : k0 = k := by
        simp only [List.lookup, hx] at h
        exact Option.some.inj h
      subst hk0
      split
      · exact .inl (by simp only [List.lookup, hx])
      · rcases hk with rfl | rfl
        · exact .inl (by simp only [List.lookup, hx])
        · exact .inr (by simp only [List.lookup, hx])
    · have hx' : (x == n) = false := by simpa using hx
      have h' : r.lookup x = some k := by
        simp only [List.lookup, hx'] at h
        exact h
      have ih := lookup_relabel (env := env) h' hk
      split <;> (simp only [List.lookup, hx']; exact ih)
theorem blkOk_in {N : List Str} {sc scope : Scope} {env : Env} {own : List (Str × Nat)} (h : blkC N sc scope own = true) : BlkOk N (relabel sc env) scope own := by
  have b := blkOk_by h
  refine ⟨b.kind, b.uniq, b.ix, fun y hy e => ?_, b.own⟩
  rcases b.free y hy e with z | z
  · exact lookup_relabel z (.inl rfl)
  · exact lookup_relabel z (.inr rfl)
section
variable {K : PySem.W.Frag} {σ : L2.St} {H : Hp} {Q : VK} {tl : TE} {tt : TT} {te : TE} {g g1 : TG} {vs vs1 : List Nat} {wi wi1 : TI} {w : World}
theorem walk_zipM {b1 b2 : Bool} {a b : Addr} {xs ys : List V} {n : Nat} (h1 : xs.length = n) (h2 : ys.length = n) : Walk (ZM.ItM K b1 b2 a b) n (fun H => ZM.SqS K b1 H a xs ∧ ZM.SqS K b2 H b ys) (YPair (fun i => xs[i]?) (fun i => ys[i]?)) where
  goes i H hi q := ⟨xs, ys, xs[i], ys[i], q.1, q.2, List.getElem?_eq_getElem _, List.getElem?_eq_getElem _⟩
  stops H q := ⟨xs, ys, q.1, q.2, .inl (Nat.le_of_eq h1)⟩
  yields i H v H' hi q y := by
    obtain ⟨T, x, z, e1, e2, e3, e4, e5⟩ := y
    exact ⟨T, x, z, e1, e2, e3, e4 xs q.1, e5 ys q.2⟩
theorem pi_tupK {X : Cx} {tg l : Expr} {tl : TE} (hK : X.K = K) (hl : PE X l tl) : PI X tg l (iTup K tl) := hK ▸ pi_tup hl
theorem pi_listK {X : Cx} {tg l : Expr} {tl : TE} (hK : X.K = K) (hl : PE X l tl) : PI X tg l (iList K tl) := hK ▸ pi_list hl
/-- what the inner loop is asked for: the elements for ds, one behind the other -/
def Inner {α : Type} (Rel : α → V → Hp → Prop) (wi1 : TI) (g1 : TG) (te : TE) (vs1 : List Nat) (D : Addr) (σ : L2.St) (H : Hp) (ds : List α) : Prop :=
  ∀ R : It → Hp → Prop, (∀ (J : It) (G : Hp → Prop) (Y : Nat → Hp → V → Hp → Prop) (H4 : Hp), Walk J ds.length G Y → Ex H H4 → (∀ H', Gr (· = D) H4 H' → G H') →
    (∀ (j : Nat) (x : V) (H' H'' : Hp) (Q : VK) (d : α), ds[j]? = some d → Gr (· = D) H4 H' → Y j H' x H'' → (∀ y H3, Ex H' H3 → Rel d y H3 → Q y H3) → g1 x (wipe σ vs1) H'' fun σ3 H5 => wipe σ3 vs1 = wipe σ vs1 ∧ te σ3 H5 Q) → R J H4) → wi1 σ H R
theorem List.mem_append_eq_or (j : Int) {a : List Int} {x : Int} : decide (j ∈ a ++ [x]) = (decide (j ∈ a) || decide (j = x)) := by
  by_cases h1 : j ∈ a <;> by_cases h2 : j = x <;> simp [h1, h2]
theorem lc2R {α : Type} (Rel : α → V → Hp → Prop) (hR : ∀ d y H H', Rel d y H → Gr any H H' → Rel d y H') {J : It} {G : Hp → Prop} {Y : Nat → Hp → V → Hp → Prop} (dss : List (List α)) (wk : Walk J dss.length G Y) (ht : ∀ R : It → Hp → Prop, R J H → wi σ H R)
    (hG : ∀ H', Ex H H' → G H') (hn : dss.flatten.length ≤ 90000)
    (hs : ∀ (D : Addr) (i : Nat) (x : V) (H' H'' : Hp) (ds : List α), H D = none → dss[i]? = some ds → Ex H H' → (∃ acc, H' D = some (.lst acc)) → Y i H' x H'' → ∀ F : L2.St → Hp → Prop, (∀ σ2 H2, wipe σ2 vs = wipe σ vs → Ex H' H2 → Inner Rel wi1 g1 te vs1 D σ2 H2 ds → F σ2 H2) → g x (wipe σ vs) H'' F)
    (k : ∀ (D : Addr) (ys : List V) (H' : Hp), H D = none → Ex H H' → H' D = some (.lst ys) → ys.length = dss.flatten.length → (∀ (i : Nat) (y : V) (d : α), ys[i]? = some y → dss.flatten[i]? = some d → Rel d y H') → Q (.ref D) H') : tLc2 wi g tYes wi1 g1 tYes te vs vs1 σ H Q := by
  refine ht _ fun D hD => ?_
  -- the elements of the rows done
  let At : List α → Hp → Prop := fun ds H' => Ex H H' ∧ ∃ ys : List V, H' D = some (.lst ys) ∧ ys.length = ds.length ∧ ∀ (i : Nat) (y : V) (d : α), ys[i]? = some y → ds[i]? = some d → Rel d y H'
  have put : ∀ {ds : List α} {d : α} {y : V} {H1 H3 : Hp}, ds.length < 90000 → At ds H1 → Ex H1 H3 → Rel d y H3 → ∃ acc, H3 D = some (.lst acc) ∧ acc.length < sizeLine ∧ At (ds ++ [d]) (upd H3 D (.lst (acc ++ [y]))) := by
    rintro ds d y H1 H3 hl ⟨p1, ys, p2, p3, p4⟩ e hr
    have e3 := e.get p2
    have gu : Gr any H3 (upd H3 D (.lst (ys ++ [y]))) := Gr.refl.put e3 (.inr trivial)
    refine ⟨ys, e3, smallt (by omega), (p1.trans e).put e3 (.inl hD), _, upd_same, by rw [List.length_append, List.length_append, p3]; rfl, fun i z d' hz hd => ?_⟩
    by_cases hj : i < ys.length
    · rw [List.getElem?_append_left hj] at hz
      rw [List.getElem?_append_left (by omega)] at hd
      exact hR _ _ _ _ (p4 i z d' hz hd) (e.any.trans gu)
    · rw [List.getElem?_append_right (by omega)] at hz hd
      have h0 : i - ys.length = 0 := by
        have := (List.getElem?_eq_some_iff.mp hz).1
        simp at this
        omega
      rw [h0] at hz
      rw [← p3, h0] at hd
      cases hz
      cases hd
      exact hR _ _ _ _ hr gu
  refine ⟨fun i m H' => m = dss.length - i ∧ i ≤ dss.length ∧ At (dss.take i).flatten H', ⟨dss.length, by simp, Nat.zero_le _, .new hD, [], upd_same, by simp, fun i y d h => by simp at h⟩, ?_⟩
  rintro i m H' ⟨rfl, hi, p⟩
  have q := hG H' p.1
  by_cases hlt : i < dss.length
  · refine .inr ⟨wk.goes i H' hlt q, fun H2 => At (dss.take (i + 1)).flatten H2, fun H2 p' => ⟨dss.length - (i + 1), by omega, rfl, hlt, p'⟩, fun x H'' hy => ?_⟩
    have hd : dss[i]? = some dss[i] := List.getElem?_eq_getElem hlt
    obtain ⟨ys, f1, f2, f3⟩ := p.2
    refine hs D i x H' H'' _ hD hd p.1 ⟨ys, f1⟩ (wk.yields i H' x H'' hlt q hy) _ fun σ2 H2 e1 e2 hin => ⟨e1, ?_⟩
    have ef : (dss.take (i + 1)).flatten = (dss.take i).flatten ++ dss[i] := by
      rw [List.take_add_one, hd, Option.toList_some, List.flatten_append, List.flatten_cons, List.flatten_nil, List.append_nil]
    have total : (dss.take (i + 1)).flatten.length ≤ dss.flatten.length := by
      have h1 : dss = dss.take (i + 1) ++ dss.drop (i + 1) := (List.take_append_drop _ _).symm
      have h2 : dss.flatten.length = (dss.take (i + 1)).flatten.length + (dss.drop (i + 1)).flatten.length := by
        conv => lhs; rw [h1]
        rw [List.flatten_append, List.length_append]
      omega
    show wi1 σ2 H2 _
    refine hin _ fun J1 G1 Y1 H4 w1 e4 hG1 hs1 => ?_
    have p4 : At (dss.take i).flatten H4 := ⟨(p.1.trans e2).trans e4, ys, (e2.trans e4).get f1, f2, fun j y d h1 h2 => hR _ _ _ _ (f3 j y d h1 h2) (e2.trans e4).any⟩
    rw [ef]
    generalize dss[i] = ds at *
    refine ⟨fun j n H5 => n = ds.length - j ∧ j ≤ ds.length ∧ Gr (· = D) H4 H5 ∧ At ((dss.take i).flatten ++ ds.take j) H5, ⟨ds.length, by simp, Nat.zero_le _, .refl, by rw [List.take_zero, List.append_nil]; exact p4⟩, ?_⟩
    rintro j n H5 ⟨rfl, hj, g5, p5⟩
    have q1 := hG1 H5 g5
    by_cases hlj : j < ds.length
    · refine .inr ⟨w1.goes j H5 hlj q1, fun H6 => Gr (· = D) H4 H6 ∧ At ((dss.take i).flatten ++ ds.take (j + 1)) H6, fun H6 p' => ⟨ds.length - (j + 1), by omega, rfl, hlj, p'⟩, fun x1 H6 hy1 => ?_⟩
      have hd1 : ds[j]? = some ds[j] := List.getElem?_eq_getElem hlj
      refine hs1 j x1 H5 H6 _ _ hd1 g5 (w1.yields j H5 x1 H6 hlj q1 hy1) fun y H7 e7 r7 => ?_
      have len : ((dss.take i).flatten ++ ds.take j).length < 90000 := by
        rw [ef, List.length_append] at total
        rw [List.length_append, List.length_take]
        omega
      obtain ⟨acc, a1, a2, a3⟩ := put len p5 e7 r7
      refine ⟨acc, a1, a2, (g5.trans e7.of).put a1 (.inr rfl), ?_⟩
      rw [List.take_add_one, hd1, Option.toList_some, ← List.append_assoc]
      exact a3
    · have ej : j = ds.length := by omega
      subst ej
      rw [List.take_length] at p5
      exact .inl ⟨w1.stops H5 q1, p5⟩
  · have ei : i = dss.length := by omega
    subst ei
    obtain ⟨p1, ys, p2, p3, p4⟩ := p
    rw [List.take_length] at p3 p4
    exact .inl ⟨wk.stops H' q, k D ys H' hD p1 p2 p3 p4⟩
/-- [f x for x in .. if p x]: each element told by Rel -/
theorem lcFR {α : Type} (Rel : α → V → Hp → Prop) (hR : ∀ d y H H', Rel d y H → Gr any H H' → Rel d y H') {J : It} {G : Hp → Prop} {Y : Nat → Hp → V → Hp → Prop} (ds : List α) (p : α → Bool) (wk : Walk J ds.length G Y) (ht : ∀ R : It → Hp → Prop, R J H → wi σ H R) (hG : ∀ H', Ex H H' → G H') (hn : ds.length ≤ 90000)
    (hs : ∀ (i : Nat) (x : V) (H' H'' : Hp) (d : α), ds[i]? = some d → Ex H H' → Y i H' x H'' → ∀ F : L2.St → Hp → Prop, (∀ σ2 H2, wipe σ2 vs = wipe σ vs → Ex H' H2 → (∀ B : Bool → Hp → Prop, (∀ H3, Ex H2 H3 → B (p d) H3) → tt σ2 H2 B) →
      (p d = true → ∀ (H3 : Hp) (Q' : VK), Ex H2 H3 → (∀ y H4, Ex H3 H4 → Rel d y H4 → Q' y H4) → te σ2 H3 Q') → F σ2 H2) → g x (wipe σ vs) H'' F)
    (k : ∀ (D : Addr) (ys : List V) (H' : Hp), H D = none → Ex H H' → H' D = some (.lst ys) → ys.length = (ds.filter p).length → (∀ (i : Nat) (y : V) (d : α), ys[i]? = some y → (ds.filter p)[i]? = some d → Rel d y H') → Q (.ref D) H') : tLc wi g tt te vs σ H Q := by
  refine ht _ fun D hD => ?_
  refine lc_it wk (fun i H' => Ex H H' ∧ ∃ ys : List V, H' D = some (.lst ys) ∧ ys.length = ((ds.take i).filter p).length ∧ ∀ (j : Nat) (y : V) (d : α), ys[j]? = some y → ((ds.take i).filter p)[j]? = some d → Rel d y H') ⟨.new hD, [], upd_same, by simp, fun j y d h => by simp at h⟩ (fun i H' _ q => hG H' q.1) ?_ ?_
  · rintro i x H' H'' hi ⟨e, ys, f1, f2, f3⟩ hy
    have hd : ds[i]? = some ds[i] := List.getElem?_eq_getElem hi
    have hl : ((ds.take i).filter p).length ≤ i := Nat.le_trans (List.length_filter_le _ _) (by rw [List.length_take]; omega)
    have ht1 : ds.take (i + 1) = ds.take i ++ [ds[i]] := by rw [List.take_add_one, hd]; rfl
    refine hs i x H' H'' _ hd e hy _ fun σ2 H2 w2 e2 h1 h2 => ⟨w2, h1 _ fun H3 e3 => ?_⟩
    have E3 := (e.trans e2).trans e3
    have F1 := (e2.trans e3).get f1
    have keep : ∀ (j : Nat) (y : V) (d : α), ys[j]? = some y → ((ds.take i).filter p)[j]? = some d → Rel d y H3 := fun j y d a b => hR _ _ _ _ (f3 j y d a b) (e2.trans e3).any
    cases hp : p ds[i] with
    | false =>
      refine iteF ⟨E3, ys, F1, ?_, ?_⟩
      · rw [ht1, List.filter_append, List.filter_cons, hp]
        simpa using f2
      · rw [ht1, List.filter_append, List.filter_cons, hp]
        simpa using keep
    | true =>
      refine iteT (h2 hp H3 _ e3 fun y H4 e4 r4 => ?_)
      have F4 := e4.get F1
      have gu : Gr any H4 (upd H4 D (.lst (ys ++ [y]))) := Gr.refl.put F4 (.inr trivial)
      have hf : (ds.take (i + 1)).filter p = (ds.take i).filter p ++ [ds[i]] := by
        rw [ht1, List.filter_append, List.filter_cons, hp]
        simp
      refine ⟨ys, F4, smallt (by omega), (E3.trans e4).put F4 (.inl hD), _, upd_same, by rw [hf, List.length_append, List.length_append, f2]; rfl, fun j z d hz hd' => ?_⟩
      rw [hf] at hd'
      by_cases hj : j < ys.length
      · rw [List.getElem?_append_left hj] at hz
        rw [List.getElem?_append_left (by omega)] at hd'
        exact hR _ _ _ _ (hR _ _ _ _ (keep j z d hz hd') e4.any) gu
      · rw [List.getElem?_append_right (by omega)] at hz hd'
        have h0 : j - ys.length = 0 := by
          have := (List.getElem?_eq_some_iff.mp hz).1
          simp at this
          omega
        rw [h0] at hz
        rw [← f2, h0] at hd'
        cases hz
        cases hd'
        exact hR _ _ _ _ r4 gu
  · rintro H' ⟨e, ys, f1, f2, f3⟩
    rw [List.take_length] at f2 f3
    exact k D ys H' hD e f1 f2 f3
/-- what is walked is made first -/
theorem lc2d (C : It → Hp → Prop) (ht : ∀ R : It → Hp → Prop, (∀ J H1, C J H1 → R J H1) → wi σ H R) (hk : ∀ J H1, C J H1 → tLc2 (fun _ H R => R J H) g tt wi1 g1 tYes te vs vs1 σ H1 Q) : tLc2 wi g tt wi1 g1 tYes te vs vs1 σ H Q := ht _ hk
theorem lcTd (C : Addr → Hp → Prop) (ht : ∀ R : VK, (∀ a H1, C a H1 → R (.ref a) H1) → tl σ H R) (hk : ∀ a H1, C a H1 → tLc (iTup K (fun _ H R => R (.ref a) H)) g tt te vs σ H1 Q) : tLc (iTup K tl) g tt te vs σ H Q := ht _ hk
theorem lcLd (C : Addr → Hp → Prop) (ht : ∀ R : VK, (∀ a H1, C a H1 → R (.ref a) H1) → tl σ H R) (hk : ∀ a H1, C a H1 → tLc (iList K (fun _ H R => R (.ref a) H)) g tt te vs σ H1 Q) : tLc (iList K tl) g tt te vs σ H Q := ht _ hk
section
variable {Dn : Ends} {tb : TS}
/-- loops over what is made first -/
theorem forLm (C : Addr → List V → Hp → Prop) (ht : ∀ R : VK, (∀ p xs H1, C p xs H1 → R (.ref p) H1) → tl σ H R) (hS : ∀ p xs H1, C p xs H1 → SqL K H1 p xs) (Pv : Addr → List V → Nat → L2.St → Hp → Prop) (h0 : ∀ p xs H1, C p xs H1 → Pv p xs 0 σ H1)
    (hG : ∀ p xs i σ' H', Pv p xs i σ' H' → SqL K H' p xs)
    (hs : ∀ p xs (i : Nat) (x : V) σ' H', xs[i]? = some x → Pv p xs i σ' H' → g x σ' H' fun σ2 H2 => tb { Dn with nx := Pv p xs (i + 1), ct := Pv p xs (i + 1), bk := Dn.nx } σ2 H2)
    (hd : ∀ p xs σ' H', Pv p xs xs.length σ' H' → Dn.nx σ' H') : tFor (iList K tl) g tb Dn σ H :=
  ht _ fun p xs H1 c => ⟨p, rfl, ⟨xs, hS p xs H1 c⟩, for_list (Pv p xs) (h0 p xs H1 c) (fun i σ' H' _ q => hG p xs i σ' H' q) (fun i x σ' H' hx q => hs p xs i x σ' H' hx q) (hd p xs)⟩
end
/-- [f x for x in zip(..)]: what is walked is made first -/
theorem lcMd {b1 b2 : Bool} {ta : TA} (C : Addr → Addr → Hp → Prop) (ht : ∀ R : List V → Hp → Prop, (∀ a b H1, C a b H1 → R [.ref a, .ref b] H1) → ta σ H R) (hk : ∀ a b H1, C a b H1 → tLc (ZM.iZipM K b1 b2 (fun _ H R => R [.ref a, .ref b] H)) g tt te vs σ H1 Q) : tLc (ZM.iZipM K b1 b2 ta) g tt te vs σ H Q := ht _ hk
/-- {f x for x in l}: the elements known -/
theorem scLf {a : Addr} {xs : List V} (ht : ∀ R : VK, R (.ref a) H → tl σ H R) (hS : SqL K H a xs) (hn : xs.length ≤ 900) (zs : List Int) (hz : zs.length = xs.length)
    (hs : ∀ (i : Nat) (x : V) (z : Int) (H' : Hp) (Q' : VK), xs[i]? = some x → zs[i]? = some z → Ex H H' → (∀ H3, Ex H' H3 → Q' (.int z) H3) → g x (wipe σ vs) H' fun σ2 H2 => wipe σ2 vs = wipe σ vs ∧ te σ2 H2 Q')
    (k : ∀ D H' n, H D = none → Ex H H' → n ≤ zs.length → H' D = some (SetO w D (fun j => decide (j ∈ zs)) n) → Q (.ref D) H') : tScI w (iList K tl) g tYes te vs σ H Q := by
  refine ht _ ⟨a, rfl, ⟨xs, hS⟩, fun D hD => ?_⟩
  refine ⟨fun i m H' => m = xs.length - i ∧ i ≤ xs.length ∧ Ex H H' ∧ ∃ n, n ≤ i ∧ H' D = some (SetO w D (fun j => decide (j ∈ zs.take i)) n), ⟨xs.length, by simp, Nat.zero_le _, .new hD, 0, Nat.le_refl _, ?_⟩, ?_⟩
  · rw [upd_same]
    simp
  rintro i m H' ⟨rfl, hi, e, n, hni, hd⟩
  have q := e.seqL (K := K) hS id
  by_cases hlt : i < xs.length
  · refine .inr ⟨⟨xs, xs[i], q, List.getElem?_eq_getElem hlt⟩, fun H2 => Ex H H2 ∧ ∃ n, n ≤ i + 1 ∧ H2 D = some (SetO w D (fun j => decide (j ∈ zs.take (i + 1))) n), fun H2 p' => ⟨xs.length - (i + 1), by omega, rfl, hlt, p'⟩, fun x H'' hy => ?_⟩
    obtain ⟨rfl, hy⟩ := hy
    have hzi : zs[i]? = some zs[i] := List.getElem?_eq_getElem (by omega)
    refine hs i x zs[i] H'' _ (hy xs q) hzi e fun H3 e3 => ?_
    have h3 := e3.get hd
    refine ⟨_, _, n, rfl, h3, Nat.lt_of_le_of_lt (show n + 1 ≤ 901 by omega) (by decide), ?_, if decide (zs[i] ∈ zs.take i) = true then n else n + 1, ?_, ?_⟩
    · refine fun b o hb => ?_
      have nb : b ≠ D := fun z => by
        rw [z, hD] at hb
        cases hb
      rw [upd_ne nb]
      exact (e.trans e3) b o hb
    · split <;> omega
    · have ee : (fun j => decide (j ∈ zs.take i) || decide (j = zs[i])) = fun j => decide (j ∈ zs.take (i + 1)) := by
        funext j
        rw [List.take_add_one, hzi, Option.toList_some, List.mem_append_eq_or j]
      rw [upd_same, ee]
  · have ei : i = xs.length := by omega
    subst ei
    rw [← hz, List.take_length] at hd
    exact .inl ⟨⟨xs, q, Nat.le_refl _⟩, k D H' n hD e (by omega) hd⟩
end
end Z

/-! an argument with a star, in a block: K told by itself. -/
namespace Z
open PySem PySem.Spec PyProof.Rows L2
theorem pa_starK {X : Cx} {K : PySem.W.Frag} {e : Expr} {es : List Expr} {te : TE} {t : TA} {p : Pos} (hK : X.K = K) (he : PE X e te) (hr : PA X es t) (hs : starEach (.Starred e p :: es) X.env = (true, eval e X.env) :: starEach es X.env := by rfl) : PA X (.Starred e p :: es) (StX.tStar K te t) := by
  subst hK
  exact StX.pa_star he hr hs
end Z

/-! comprehensions that make new lists, their elements known; zip of two lists. -/
namespace Z
open PySem PySem.Spec PyProof.Rows L2 RZ
section
variable {K : PySem.W.Frag} {σ : L2.St} {H : Hp} {Q : VK} {ta : TA} {tl : TE} {te : TE} {g : TG} {vs : List Nat}
/-- [f x for x in l], each element a new list, its elements known -/
theorem lcLn {a : Addr} {xs : List V} (ht : ∀ R : VK, R (.ref a) H → tl σ H R) (hS : SqL K H a xs) (hn : xs.length ≤ 90000) (zss : List (List V)) (hz : zss.length = xs.length)
    (hs : ∀ (i : Nat) (x : V) (zs : List V) (H' : Hp) (Q' : VK), xs[i]? = some x → zss[i]? = some zs → Ex H H' → (∀ b H3, Ex H' H3 → H' b = none → H3 b = some (.lst zs) → Q' (.ref b) H3) → g x (wipe σ vs) H' fun σ2 H2 => wipe σ2 vs = wipe σ vs ∧ te σ2 H2 Q')
    (k : ∀ D (bs : List Addr) H', H D = none → Ex H H' → H' D = some (.lst (bs.map V.ref)) → bs.length = zss.length → (∀ (i : Nat) (b : Addr) (zs : List V), bs[i]? = some b → zss[i]? = some zs → H' b = some (.lst zs)) → Q (.ref D) H') : tLc (iList K tl) g tYes te vs σ H Q := by
  refine ht _ ⟨a, rfl, ⟨xs, hS⟩, fun D hD => ?_⟩
  refine lc_it walk_list (fun i H' => Ex H H' ∧ ∃ bs : List Addr, H' D = some (.lst (bs.map V.ref)) ∧ bs.length = i ∧ ∀ (j : Nat) (b : Addr) (zs : List V), bs[j]? = some b → zss[j]? = some zs → b ≠ D ∧ H' b = some (.lst zs)) ⟨.new hD, [], upd_same, rfl, fun j b zs h => by simp at h⟩ (fun i H' _ q => q.1.seqL hS id) ?_ ?_
  · rintro i x H' H'' hi ⟨q1, bs, q2, q3, q4⟩ ⟨e, hx⟩
    subst e
    have hi2 : i < zss.length := by omega
    refine hs i x zss[i] _ _ hx (List.getElem?_eq_getElem hi2) q1 fun b H3 e3 hb hS3 => ?_
    have f3 := e3.get q2
    have hbD : b ≠ D := fun z => by
      rw [z, q2] at hb
      cases hb
    have gD : Gr (· = D) H3 (upd H3 D (.lst (bs.map V.ref ++ [V.ref b]))) := Gr.refl.put f3 (.inr rfl)
    refine ⟨_, f3, smallt (by rw [List.length_map]; omega), (q1.trans e3).put f3 (.inl hD), bs ++ [b], by rw [upd_same, List.map_append]; rfl, by rw [List.length_append, q3]; rfl, fun j c zs hc hzs => ?_⟩
    by_cases hj : j < bs.length
    · rw [List.getElem?_append_left hj] at hc
      obtain ⟨h1, h2⟩ := q4 j c zs hc hzs
      exact ⟨h1, gD.at (e3.get h2) h1⟩
    · rw [List.getElem?_append_right (by omega)] at hc
      have hj2 : j - bs.length = 0 := by
        cases q : j - bs.length with
        | zero => rfl
        | succ r =>
          rw [q] at hc
          simp at hc
      rw [hj2] at hc
      cases hc
      have ej : j = i := by omega
      subst ej
      rw [List.getElem?_eq_getElem hi2] at hzs
      cases hzs
      exact ⟨hbD, gD.at hS3 hbD⟩
  · rintro H' ⟨q1, bs, q2, q3, q4⟩
    exact k D bs H' hD q1 q2 (q3.trans hz.symm) fun i b zs h1 h2 => (q4 i b zs h1 h2).2
/-- for x, y in zip(a, b) of two tuples; what is walked is made first -/
theorem forZd {tb : TS} {Dn : Ends} (C : Addr → Addr → Hp → Prop) (ht : ∀ R : List V → Hp → Prop, (∀ a b H1, C a b H1 → R [.ref a, .ref b] H1) → ta σ H R) (hk : ∀ a b H1, C a b H1 → tFor (iZipA K (fun _ H R => R [.ref a, .ref b] H)) g tb Dn σ H1) : tFor (iZipA K ta) g tb Dn σ H := ht _ hk
theorem forZT {tb : TS} {Dn : Ends} {a b : Addr} {xs ys : List V} {n : Nat} (ht : ∀ R : List V → Hp → Prop, R [.ref a, .ref b] H → ta σ H R) (h1 : SqT K H a xs) (h2 : SqT K H b ys) (l1 : xs.length = n) (l2 : ys.length = n) (Pv : Nat → L2.St → Hp → Prop) (h0 : Pv 0 σ H) (hG : ∀ i σ' H', Pv i σ' H' → SqT K H' a xs ∧ SqT K H' b ys)
    (hs : ∀ (i : Nat) (T : Addr) (x y : V) σ' H' H'', xs[i]? = some x → ys[i]? = some y → Pv i σ' H' → Ex H' H'' → H' T = none → H'' T = some (.tup [x, y]) → g (.ref T) σ' H'' fun σ2 H2 => tb { Dn with nx := Pv (i + 1), ct := Pv (i + 1), bk := Dn.nx } σ2 H2)
    (hd : ∀ σ' H', Pv n σ' H' → Dn.nx σ' H') : tFor (iZipA K ta) g tb Dn σ H :=
  ht _ ⟨a, b, xs, ys, rfl, .inr ⟨h1, h2, for_it (walk_zipT l1 l2) Pv h0 (fun i σ' H' _ p => hG i σ' H' p) (fun i v σ' H' H'' hi p y => by
    obtain ⟨T, x, z, rfl, nT, rfl, e4, e5⟩ := y
    exact hs i T x z σ' H' _ e4 e5 p (.new nT) nT upd_same) hd⟩⟩
/-- [f x y for x, y in zip(a, b)] of a tuple and a list, the elements known -/
theorem lcTL {a b : Addr} {xs ys : List V} {n : Nat} (ht : ∀ R : List V → Hp → Prop, R [.ref a, .ref b] H → ta σ H R) (h1 : SqT K H a xs) (h2 : SqL K H b ys) (l1 : xs.length = n) (l2 : ys.length = n) (hn : n ≤ 90000) (zs : List V) (hz : zs.length = n)
    (hs : ∀ (i : Nat) (T : Addr) (x y z : V) (H' : Hp) (Q' : VK), xs[i]? = some x → ys[i]? = some y → zs[i]? = some z → Ex H H' → H' T = some (.tup [x, y]) → (∀ H3, Ex H' H3 → Q' z H3) → g (.ref T) (wipe σ vs) H' fun σ2 H2 => wipe σ2 vs = wipe σ vs ∧ te σ2 H2 Q')
    (k : ∀ D H', H D = none → Ex H H' → H' D = some (.lst zs) → Q (.ref D) H') : tLc (ZM.iZipM K false true ta) g tYes te vs σ H Q := by
  refine ht _ ⟨a, b, xs, ys, rfl, h1, h2, ?_⟩
  refine lc_all (walk_zipM (K := K) (b1 := false) (b2 := true) l1 l2) nob (fun _ => True) (fun i y _ => zs[i]? = some y) hn (fun H' e => ⟨e.seqT h1, e.seqL h2 id⟩) (fun _ z => z.elim) trivial (fun _ _ _ _ _ _ => trivial) (fun _ _ _ _ q _ => q) (fun i v H' H'' Q' hi e _ y q => ?_) fun D ws H' hD e _ f lw hw => ?_
  · obtain ⟨T, x, z, rfl, nT, rfl, e4, e5⟩ := y
    have eT : Ex H' (upd H' T (.tup [x, z])) := .new nT
    have hi2 : i < zs.length := by omega
    exact hs i T x z zs[i] _ Q' e4 e5 (List.getElem?_eq_getElem hi2) (e.trans eT) upd_same fun H3 e3 => q _ H3 (eT.trans e3) trivial (List.getElem?_eq_getElem hi2)
  · have ew : ws = zs := ext_of (lw.trans hz.symm) hw
    exact k D H' hD e (ew ▸ f)
end
end Z

namespace Z
open PySem PySem.Spec PyProof.Rows L2
def cellV : Option Int → V
  | none => .non
  | some i => .int i
theorem stepV_map {α β : Type} (h : α → β) (xs : List α) (f d : Nat) : stepV (xs.map h) f d = (stepV xs f d).map h := by
  unfold stepV
  rw [List.length_map, List.map_filterMap]
  congr 1
  funext i
  rw [List.getElem?_map]
theorem stepV_mem {α : Type} {xs : List α} {f d : Nat} (hf : f < d) {v : α} : v ∈ stepV xs f d ↔ ∃ i, i % d = f ∧ xs[i]? = some v := by
  unfold stepV stepN
  rw [List.mem_filterMap]
  constructor
  · rintro ⟨i, hi, hv⟩
    obtain ⟨k, hk, rfl⟩ := List.mem_map.mp hi
    refine ⟨_, ?_, hv⟩
    rw [Nat.add_mul_mod_self_left, Nat.mod_eq_of_lt hf]
  · rintro ⟨i, hi, hv⟩
    refine ⟨i, List.mem_map.mpr ⟨i / d, List.mem_range.mpr ?_, ?_⟩, hv⟩
    · have hl := (List.getElem?_eq_some_iff.mp hv).1
      have e := Nat.div_add_mod i d
      rw [hi] at e
      rw [Nat.lt_iff_add_one_le, Nat.le_div_iff_mul_le (by omega), Nat.add_mul, Nat.one_mul, Nat.mul_comm]
      omega
    · have e := Nat.div_add_mod i d
      rw [hi] at e
      omega
theorem filt_cells (l : List (Option Int)) : (l.map cellV).filter (fun v => !decide (v = V.non)) = (l.filterMap id).map V.int := by
  induction l with
  | nil => rfl
  | cons c l ih =>
    cases c with
    | none =>
      rw [List.map_cons, List.filter_cons, List.filterMap_cons]
      simpa [cellV] using ih
    | some i =>
      rw [List.map_cons, List.filter_cons, List.filterMap_cons]
      simpa [cellV] using ih
theorem lc_at {K : PySem.W.Frag} {g : TG} {tt : TT} {te tl : TE} {vs : List Nat} {σ : L2.St} {H : Hp} {Q : VK} (C : Addr → List V → Hp → Prop) (ht : ∀ R : VK, (∀ p xs H1, C p xs H1 → R (.ref p) H1) → tl σ H R)
    (h : ∀ p xs H1, C p xs H1 → tLc (iList K fun _ H2 R => R (.ref p) H2) g tt te vs σ H1 Q) : tLc (iList K tl) g tt te vs σ H Q :=
  ht _ fun p xs H1 c => h p xs H1 c
end Z
namespace NM
theorem Inn.turn_pl {S : Int → Prop} {m a d : Nat} {n0 : Int} {L0 L : Tab} {t : Nat} {u : Int} (I : Inn S m a d n0 L0 t L u) : pl m (turnV m a L u) = pl m (u + a) := by
  unfold turnV
  split
  · rename_i k hk
    obtain ⟨k1, k2⟩ := I.sound _ _ hk
    split
    · exact k2
    · rfl
  · rfl
end NM

/-! x in t, t a tuple of data of any depth. -/
namespace Z
open PySem PySem.Spec PyProof.Rows L2
section
variable {X : Cx}
def rInDT (K : PySem.W.Frag) : R2 := fun x y H Q => ∃ d ds, Dp K H x d ∧ Dp K H y (.tuple ds) ∧ SeqAt.shaped d = true ∧ SeqAt.shaped (.tuple ds) = true ∧ Q (.bl (ds.any fun z => PyData.eqv z d)) H
theorem RoomU {k : Nat} {A : Around} (r : Room k A) : A.units + 65 < cLine := by
  have := r.un
  omega
theorem op_inDT (hu : X.A.units + 65 < cLine) : OpR X (compareOp .In) (rInDT X.K) := by
  intro pins s σ H x y v u Q I rx ry h
  obtain ⟨d, ds, hd, he, sd, se, q⟩ := h
  obtain ⟨as, r1⟩ := Dp.reads I d x v hd rx
  obtain ⟨bs, r2⟩ := Dp.reads I (.tuple ds) y u he ry
  exact SeqAt.in_tuple_reads r2 r1 (SeqAt.canLay_of_shaped se) (SeqAt.canLay_of_shaped sd) (room_in_shaped sd hu) ⟨.bl _, H, I, rfl, q⟩
/-- x in l, l a list of data of any depth -/
def rInDL (K : PySem.W.Frag) : R2 := fun x y H Q => ∃ d ds, Dp K H x d ∧ Dp K H y (.list ds) ∧ SeqAt.shaped d = true ∧ SeqAt.shaped (.list ds) = true ∧ Q (.bl (ds.any fun z => PyData.eqv z d)) H
theorem op_inDL (hu : X.A.units + 65 < cLine) : OpR X (compareOp .In) (rInDL X.K) := by
  intro pins s σ H x y v u Q I rx ry h
  obtain ⟨d, ds, hd, he, sd, se, q⟩ := h
  obtain ⟨as, r1⟩ := Dp.reads I d x v hd rx
  obtain ⟨bs, r2⟩ := Dp.reads I (.list ds) y u he ry
  exact SeqAt.in_list_reads r2 r1 (SeqAt.canLay_of_shaped se) (SeqAt.canLay_of_shaped sd) (room_in_shaped sd hu) ⟨.bl _, H, I, rfl, q⟩
end
end Z

/-! a law's end, over a promise that holds where nothing is being shown. -/
namespace Z
open PySem PySem.Spec PyProof.Rows L2
/-- the script alone, if it is no object of the module -/
def hpS (K : PySem.W.Frag) (a : Addr) (o : Obj) (xs : List V) : Hp := fun b => if b = a ∧ K.lookup a = none then some (.frz o (.lst xs)) else none
section
variable {K : PySem.W.Frag} {a : Addr} {o : Obj} {xs : List V}
theorem hpS_some {b : Addr} {u : HO} (h : hpS K a o xs b = some u) : b = a ∧ K.lookup a = none ∧ u = .frz o (.lst xs) := by
  unfold hpS at h
  by_cases c : b = a ∧ K.lookup a = none
  · rw [if_pos c] at h
    exact ⟨c.1, c.2, (Option.some.inj h).symm⟩
  · rw [if_neg c] at h
    cases h
theorem hpS_or (b : Addr) : hpS K a o xs b = none ∨ hpS K a o xs b = some (.frz o (.lst xs)) := by
  cases q : hpS K a o xs b with
  | none => exact .inl rfl
  | some u => exact .inr (by rw [(hpS_some q).2.2])
end
theorem law_runG {P : Program} {w : World} {K : PySem.W.Frag} {mg mb : Str → Option Value} {k : Nat} {fa a : Addr} {fd : FuncData} {x : Str} {sp : Sp} {s : Shared} {vs : List Value} {ns : List Int}
    (KX : K.In s.heap) (hns : s.heap.Ns mainGlobals mg) (hb : s.heap.Ns builtinsNs mb) (hbb : ∀ x : Str, x ≠ "__name__" → mb x = bootBuiltins x) (hlim : s.heap.NoLimit) (hg : s.gens = #[])
    (ha : s.heap.get? a = some { cls := .type "list", data := .seq vs.toArray }) (hi : IntsAre vs ns) (hl : ns.length ≤ sizeLine) (hr : Room k callerA)
    (F : ∀ base : Heap, K.In base → base.Ns mainGlobals mg → FnG P w K mg base k fa fd [x] sp) (hbind : ∀ (s : Shared) (u : Value), BindsTo s fd ⟨[u], []⟩ [(x, u)])
    (hsp : ∀ H : Hp, SqL K H a (ns.map V.int) → sp [.ref a] H (fun v _ => v = .bl true) E0) :
    codeAny (model P w) callerA (.call (.ref fa) ⟨[.ref a], []⟩) (fun r s' => r = .ok (.ret (.bool true)) ∧ OldK s.heap s'.heap ∧ s'.os = s.os ∧ AllBare s'.gens) s := by
  have rv := vals_ints hi
  have hlen := hi.length
  generalize hH : hpS K a { cls := .type "list", data := .seq vs.toArray } (ns.map V.int) = H
  have hsome : ∀ {b : Addr} {u : HO}, H b = some u → b = a ∧ K.lookup a = none ∧ u = .frz { cls := .type "list", data := .seq vs.toArray } (.lst (ns.map V.int)) := fun h => hpS_some (by rw [hH]; exact h)
  have hnone : ∀ {b : Addr} {ob : Obj}, s.heap.get? b = some ob → (∀ its n, ob.data ≠ .seq its n) → H b = none := fun {b ob} e n => by
    cases q : H b with
    | none => rfl
    | some u =>
      obtain ⟨rfl, _, _⟩ := hsome q
      rw [ha] at e
      cases e
      exact (n _ _ rfl).elim
  have hns2 : ∀ {b : Addr} {m : Str → Option Value}, s.heap.Ns b m → (hidT s.heap H).Ns b m := fun ⟨ob, es, ep, e, d, r⟩ => ⟨ob, es, ep, hidT_get e (hnone e fun its n z => by rw [d] at z; cases z), d, r⟩
  have hkin : K.In (hidT s.heap H) := fun b ob e => hidT_get (KX b ob e) (by
    cases q : H b with
    | none => rfl
    | some u =>
      obtain ⟨rfl, n, _⟩ := hsome q
      rw [n] at e
      cases e)
  have hmod : Mod K mg (hidT s.heap H) := ⟨hkin, hns2 hns, ⟨mb, hns2 hb, hbb⟩, by
    obtain ⟨mc, h1, h2⟩ := hlim
    exact ⟨mc, hns2 h1, h2⟩⟩
  have hok : HOk P w H s.heap := fun b u q => by
    obtain ⟨rfl, _, rfl⟩ := hsome q
    exact ⟨ha, by rw [List.length_map]; exact hl, vs, _, rv, ha⟩
  have hS : SqL K H a (ns.map V.int) := by
    cases hk : K.lookup a with
    | none =>
      refine .inl (.inr ⟨{ cls := .type "list", data := .seq vs.toArray }, ?_⟩)
      rw [← hH]
      exact if_pos ⟨rfl, hk⟩
    | some ob =>
      have e := KX a ob hk
      rw [ha] at e
      cases e
      exact .inr ⟨_, vs.toArray, _, hk, rfl, rfl, rfl, by rw [List.size_toArray, hlen]; exact hl, by simpa using rv⟩
  have e0 : Env0 P w K mg (hidT s.heap H) callerA [] s H := ⟨rfl, hmod, fun b ob e => of_hidT e, Nat.le_of_eq (hidT_size _ _), trivial, fun b hb => (nomatch (show b ∈ ([] : List Addr) from hb)), hok, .of_eq hg⟩
  refine codeAny_mono ((F _ hkin (hns2 hns)).run callerA [] s H ⟨[.ref a], []⟩ [.ref a] [.ref a] _ _ rfl hr e0 (hbind s (.ref a)) (.cons rfl .nil) (hsp H hS)) fun r s' h => ?_
  cases r with
  | error er => exact (cx_no h).elim
  | ok fl =>
    cases fl with
    | next => exact False.elim h
    | brk => exact False.elim h
    | cont => exact False.elim h
    | ret u =>
      obtain ⟨v, H', os, bare, un, hok', rr, q⟩ := h
      have qv : v = .bl true := q
      subst qv
      have hu : u = Value.bool true := rr
      subst hu
      refine ⟨rfl, OldK.of_keep fun b ob e => ?_, os, bare⟩
      cases q2 : H b with
      | none => exact un.keep b ob e q2 (fun z => nomatch (show b ∈ ([] : List Addr) from z)) (by simp)
      | some u =>
        obtain ⟨rfl, _, rfl⟩ := hsome q2
        obtain ⟨e1, _⟩ := hok _ _ q2
        obtain ⟨e2, _⟩ := hok' _ _ (un.frzs _ _ _ q2)
        rw [e] at e1
        cases e1
        exact e2
/-- the goal of a law's walk -/
theorem walk_ofG {l : PySem.W.OpenLaw} {n k : Nat} {q : Program} {loose : List Str} {XP : (Str → Option Value) → Heap → Prop} {YP : World → Heap → Prop} {d : DefRec} {x : Str}
    (hn : l.most = some n) (hn2 : n ≤ sizeLine) (hdf : d.params.defaults = []) (hr : Room k callerA)
    (F : ∀ (w : World) (mg : Str → Option Value) (fa : Addr) (h : Heap), YP w h → h.Ns mainGlobals mg → mg d.name = some (.ref fa) →
      ∃ (K : PySem.W.Frag) (fd : FuncData) (sp : Sp), K.In h ∧ (∀ (s : Shared) (u : Value), BindsTo s fd ⟨[u], []⟩ [(x, u)]) ∧
        (∀ (H : Hp) (a : Addr) (ns : List Int), ns.length ≤ n → SqL K H a (ns.map V.int) → sp [.ref a] H (fun v _ => v = .bl true) E0) ∧
        ∀ base : Heap, K.In base → base.Ns mainGlobals mg → FnG l.prog w K mg base k fa fd [x] sp) :
    PySem.W.WalkO q loose XP YP l.row.toRowW d [] (fun f vs => PySem.call f vs) := by
  refine Att.attach_call hn hdf fun w s₀ s₁ mg mb fa o pm cd doc a vs ns G Y ho hd hcd hmg hobj hints hlen hg => ?_
  obtain ⟨K, fd, sp, KX, hb, hsp, hF⟩ := F w mg fa _ Y G.T.g hmg
  exact law_runG KX G.T.g G.T.b G.T.builtins G.T.nolimit hg hobj hints (Nat.le_trans hlen hn2) hr hF hb fun H hS => hsp H a ns hlen hS
end Z

/-! a law's end where the law's defs hand lambdas on: their code objects' tables are tracked too, empty at first. -/
namespace Z
open PySem PySem.Spec PyProof.Rows L2 LamX
/-- the script, if it is no object of the module, and the tables -/
def hpT (K : PySem.W.Frag) (a : Addr) (o : Obj) (xs : List V) (T : List Addr) : Hp := fun b => if b ∈ T then some (.tbl #[]) else hpS K a o xs b
section
variable {K : PySem.W.Frag} {a : Addr} {o : Obj} {xs : List V} {T : List Addr} {b : Addr} {u : HO}
theorem hpT_in (h : b ∈ T) : hpT K a o xs T b = some (.tbl #[]) := if_pos h
theorem hpT_out (h : b ∉ T) : hpT K a o xs T b = hpS K a o xs b := if_neg h
theorem hpT_some (h : hpT K a o xs T b = some u) : (b ∈ T ∧ u = .tbl #[]) ∨ (b ∉ T ∧ b = a ∧ K.lookup a = none ∧ u = .frz o (.lst xs)) := by
  by_cases hb : b ∈ T
  · rw [hpT_in hb] at h
    exact .inl ⟨hb, (Option.some.inj h).symm⟩
  · rw [hpT_out hb] at h
    exact .inr ⟨hb, hpS_some h⟩
end
theorem law_runGT {P : Program} {w : World} {K : PySem.W.Frag} {mg mb : Str → Option Value} {k : Nat} {fa a : Addr} {cs : List (Addr × Addr)} {fd : FuncData} {x : Str} {sp : Sp} {s : Shared} {vs : List Value} {ns : List Int}
    (KX : K.In s.heap) (hns : s.heap.Ns mainGlobals mg) (hb : s.heap.Ns builtinsNs mb) (hbb : ∀ x : Str, x ≠ "__name__" → mb x = bootBuiltins x) (hlim : s.heap.NoLimit) (hg : s.gens = #[])
    (hT : ∀ p ∈ cs, s.heap.get? p.2 = some { cls := .none, data := .fields #[] }) (nT : ∀ p ∈ cs, K.lookup p.2 = none) (hC : ∀ p ∈ cs, PySem.W.CodeHd s.heap p.1 p.2)
    (hbm : ∃ (bm : Addr) (ob : Obj), mg "__builtins__" = some (.ref bm) ∧ bm ≠ builtinsNs ∧ s.heap.get? bm = some ob ∧ ob.cls = .type "module" ∧ ob.dict = some builtinsNs ∧ ob.data = .plain)
    (ha : s.heap.get? a = some { cls := .type "list", data := .seq vs.toArray }) (hi : IntsAre vs ns) (hl : ns.length ≤ sizeLine) (hr : Room k callerA)
    (F : ∀ base : Heap, K.In base → base.Ns mainGlobals mg → (∀ p ∈ cs, TabB base mg p.1 p.2) → FnG P w K mg base k fa fd [x] sp) (hbind : ∀ (s : Shared) (u : Value), BindsTo s fd ⟨[u], []⟩ [(x, u)])
    (hsp : ∀ H : Hp, (∀ p ∈ cs, H p.2 = some (.tbl #[])) → SqL K H a (ns.map V.int) → sp [.ref a] H (fun v _ => v = .bl true) E0) :
    codeAny (model P w) callerA (.call (.ref fa) ⟨[.ref a], []⟩) (fun r s' => r = .ok (.ret (.bool true)) ∧ OldK s.heap s'.heap ∧ s'.os = s.os ∧ AllBare s'.gens) s := by
  have rv := vals_ints hi
  have hlen := hi.length
  have isT : ∀ b : Addr, b ∈ cs.map (·.2) → s.heap.get? b = some { cls := .none, data := .fields #[] } ∧ K.lookup b = none := fun b hb => by
    obtain ⟨p, hp, rfl⟩ := List.mem_map.mp hb
    exact ⟨hT p hp, nT p hp⟩
  have memT : ∀ p ∈ cs, p.2 ∈ cs.map (·.2) := fun p hp => List.mem_map.mpr ⟨p, hp, rfl⟩
  have aT : a ∉ cs.map (·.2) := fun z => by
    have q := (isT a z).1
    rw [ha] at q
    have z' : Data.seq vs.toArray _ = Data.fields #[] := congrArg Obj.data (Option.some.inj q)
    cases z'
  generalize hH : hpT K a { cls := .type "list", data := .seq vs.toArray } (ns.map V.int) (cs.map (·.2)) = H
  have hsome : ∀ {b : Addr} {u : HO}, H b = some u → (b ∈ cs.map (·.2) ∧ u = .tbl #[]) ∨ (b ∉ cs.map (·.2) ∧ b = a ∧ K.lookup a = none ∧ u = .frz { cls := .type "list", data := .seq vs.toArray } (.lst (ns.map V.int))) := fun h => hpT_some (by rw [hH]; exact h)
  -- what is neither a list nor an empty table is not tracked
  have hnone : ∀ {b : Addr} {ob : Obj}, s.heap.get? b = some ob → (∀ its n, ob.data ≠ .seq its n) → ob.data ≠ .fields #[] → H b = none := fun {b ob} e n1 n2 => by
    cases q : H b with
    | none => rfl
    | some u =>
      rcases hsome q with ⟨hb, _⟩ | ⟨_, rfl, _, _⟩
      · rw [(isT b hb).1] at e
        cases e
        exact (n2 rfl).elim
      · rw [ha] at e
        cases e
        exact (n1 _ _ rfl).elim
  have hget : ∀ {b : Addr} {ob : Obj}, s.heap.get? b = some ob → (∀ its n, ob.data ≠ .seq its n) → ob.data ≠ .fields #[] → (hidT s.heap H).get? b = some ob := fun e n1 n2 => hidT_get e (hnone e n1 n2)
  have hns2 : ∀ {b : Addr} {m : Str → Option Value}, s.heap.Ns b m → (hidT s.heap H).Ns b m := fun ⟨ob, es, ep, e, d, r⟩ => ⟨ob, es, ep, hget e (fun its n z => by rw [d] at z; cases z) (fun z => by rw [d] at z; cases z), d, r⟩
  have hkin : K.In (hidT s.heap H) := fun b ob e => hidT_get (KX b ob e) (by
    cases q : H b with
    | none => rfl
    | some u =>
      rcases hsome q with ⟨hb, _⟩ | ⟨_, rfl, n, _⟩
      · rw [(isT b hb).2] at e
        cases e
      · rw [n] at e
        cases e)
  have hmod : Mod K mg (hidT s.heap H) := ⟨hkin, hns2 hns, ⟨mb, hns2 hb, hbb⟩, by
    obtain ⟨mc, h1, h2⟩ := hlim
    exact ⟨mc, hns2 h1, h2⟩⟩
  have hok : HOk P w H s.heap := fun b u q => by
    rcases hsome q with ⟨hb, rfl⟩ | ⟨_, rfl, _, rfl⟩
    · exact (isT b hb).1
    · exact ⟨ha, by rw [List.length_map]; exact hl, vs, _, rv, ha⟩
  have hS : SqL K H a (ns.map V.int) := by
    cases hk : K.lookup a with
    | none =>
      refine .inl (.inr ⟨{ cls := .type "list", data := .seq vs.toArray }, ?_⟩)
      rw [← hH, hpT_out aT]
      exact if_pos ⟨rfl, hk⟩
    | some ob =>
      have e := KX a ob hk
      rw [ha] at e
      cases e
      exact .inr ⟨_, vs.toArray, _, hk, rfl, rfl, rfl, by rw [List.size_toArray, hlen]; exact hl, by simpa using rv⟩
  have hTb : ∀ p ∈ cs, H p.2 = some (.tbl #[]) := fun p hp => by
    rw [← hH]
    exact hpT_in (memT p hp)
  have TB : ∀ p ∈ cs, TabB (hidT s.heap H) mg p.1 p.2 := fun p hp => by
    refine ⟨?_, ?_, fun z => ?_⟩
    · obtain ⟨ob, us, file, tf, flags, tg, inF, text, tt, e1, r1, r2, r3, r⟩ := hC p hp
      refine ⟨ob, us, file, tf, flags, tg, inF, text, tt, hget e1 (fun its n z => ?_) (fun z => ?_), r1, r2, r3, r⟩
      · rw [r2] at z
        cases z
      · rw [r2] at z
        cases z
        simp at r3
    · obtain ⟨bm, ob, b1, b2, b3, b4, b5, b6⟩ := hbm
      refine ⟨bm, ob, b1, b2, fun q => ?_, fun q => ?_, hget b3 (fun its n z => ?_) (fun z => ?_), b4, b5, b6⟩
      · obtain ⟨o2, es, ep, e, hd, _⟩ := hns
        rw [q, e] at b3
        cases b3
        rw [hd] at b6
        cases b6
      · rw [q, hT p hp] at b3
        cases b3
        cases b6
      · rw [b6] at z
        cases z
      · rw [b6] at z
        cases z
    · obtain ⟨o2, es, ep, e, hd, _⟩ := hns
      rw [z, hT p hp] at e
      cases e
      cases hd
  have e0 : Env0 P w K mg (hidT s.heap H) callerA [] s H := ⟨rfl, hmod, fun b ob e => of_hidT e, Nat.le_of_eq (hidT_size _ _), trivial, fun b hb => (nomatch (show b ∈ ([] : List Addr) from hb)), hok, .of_eq hg⟩
  refine codeAny_mono ((F _ hkin (hns2 hns) TB).run callerA [] s H ⟨[.ref a], []⟩ [.ref a] [.ref a] _ _ rfl hr e0 (hbind s (.ref a)) (.cons rfl .nil) (hsp H hTb hS)) fun r s' h => ?_
  cases r with
  | error er => exact (cx_no h).elim
  | ok fl =>
    cases fl with
    | next => exact False.elim h
    | brk => exact False.elim h
    | cont => exact False.elim h
    | ret u =>
      obtain ⟨v, H', os, bare, un, hok', rr, q⟩ := h
      have qv : v = .bl true := q
      subst qv
      have hu : u = Value.bool true := rr
      subst hu
      have key : ∀ b o, b ∉ cs.map (·.2) → s.heap.get? b = some o → s'.heap.get? b = some o := fun b o nb e => by
        cases q2 : H b with
        | none => exact un.keep b o e q2 (fun z => nomatch (show b ∈ ([] : List Addr) from z)) (by simp)
        | some u =>
          rcases hsome q2 with ⟨hb, _⟩ | ⟨_, rfl, _, rfl⟩
          · exact (nb hb).elim
          · obtain ⟨e1, _⟩ := hok _ _ q2
            obtain ⟨e2, _⟩ := hok' _ _ (un.frzs _ _ _ q2)
            rw [e] at e1
            cases e1
            exact e2
      have grown : ∀ p ∈ cs, ∃ more : Array Value, s'.heap.get? p.2 = some { cls := .none, data := .fields more } := fun p hp => by
        obtain ⟨more, z⟩ := un.tbls p.2 #[] (hTb p hp)
        exact ⟨_, hok' p.2 _ z⟩
      refine ⟨rfl, ⟨fun b o e => ?_, fun b o e => ?_⟩, os, bare⟩
      · by_cases hb : b ∈ cs.map (·.2)
        · obtain ⟨p, hp, rfl⟩ := List.mem_map.mp hb
          obtain ⟨more, hm⟩ := grown p hp
          rw [hT p hp] at e
          cases e
          exact .inr (.inl ⟨((hC p hp).tab (hT p hp)).isCodeTable, rfl, #[], more, rfl, by rw [Array.empty_append]; exact hm⟩)
        · exact .inl (key b o hb e)
      · by_cases hb : b ∈ cs.map (·.2)
        · obtain ⟨p, hp, rfl⟩ := List.mem_map.mp hb
          obtain ⟨more, hm⟩ := grown p hp
          exact ⟨_, hm⟩
        · exact ⟨o, key b o hb e⟩
/-- the goal of a law's walk -/
theorem walk_ofGT {l : PySem.W.OpenLaw} {n k : Nat} {q : Program} {loose : List Str} {XP : (Str → Option Value) → Heap → Prop} {YP : World → Heap → Prop} {d : DefRec} {x : Str}
    (hn : l.most = some n) (hn2 : n ≤ sizeLine) (hdf : d.params.defaults = []) (hr : Room k callerA)
    (F : ∀ (w : World) (mg : Str → Option Value) (fa : Addr) (h : Heap), YP w h → h.Ns mainGlobals mg → mg d.name = some (.ref fa) →
      ∃ (K : PySem.W.Frag) (fd : FuncData) (cs : List (Addr × Addr)) (sp : Sp), K.In h ∧ (∀ p ∈ cs, h.get? p.2 = some { cls := .none, data := .fields #[] }) ∧ (∀ p ∈ cs, K.lookup p.2 = none) ∧ (∀ p ∈ cs, PySem.W.CodeHd h p.1 p.2) ∧
        (∀ (s : Shared) (u : Value), BindsTo s fd ⟨[u], []⟩ [(x, u)]) ∧
        (∀ (H : Hp) (a : Addr) (ns : List Int), ns.length ≤ n → (∀ p ∈ cs, H p.2 = some (.tbl #[])) → SqL K H a (ns.map V.int) → sp [.ref a] H (fun v _ => v = .bl true) E0) ∧
        ∀ base : Heap, K.In base → base.Ns mainGlobals mg → (∀ p ∈ cs, TabB base mg p.1 p.2) → FnG l.prog w K mg base k fa fd [x] sp) :
    PySem.W.WalkO q loose XP YP l.row.toRowW d [] (fun f vs => PySem.call f vs) := by
  refine Att.attach_call hn hdf fun w s₀ s₁ mg mb fa o pm cd doc a vs ns G Y ho hd hcd hmg hobj hints hlen hg => ?_
  obtain ⟨K, fd, cs, sp, KX, hT, nT, C, hb, hsp, hF⟩ := F w mg fa _ Y G.T.g hmg
  exact law_runGT KX G.T.g G.T.b G.T.builtins G.T.nolimit hg hT nT C G.T.bmain hobj hints (Nat.le_trans hlen hn2) hr hF hb fun H hH hS => hsp H a ns hlen hH hS
end Z

/-! whether a frozen tuple of pairs of whole numbers stands at an address. -/
namespace Z
open PySem PySem.Spec PyProof.Rows L2
end Z

/-! the law's words about errors: their class and what they keep. -/
namespace Z
open PySem PySem.Spec PyProof.Rows L2
/-- what the classes of errors say -/
structure ErAll (K : PySem.W.Frag) : Prop where
  k : ∀ (i : Nat) (n : Str), errN[i]? = some n → ErK K (He.ga K n)
  own : ∀ (i : Nat) (n : Str) (j : Nat) (m : Str), errN[i]? = some n → errN[j]? = some m → PySem.W.kitOne K (.ref (He.ga K n)) (.ref (He.ga K m)) = some (decide (i = j))
  b0 : ∀ (i : Nat) (n : Str), errN[i]? = some n → PySem.W.kitOne K (.ref (He.ga K n)) (.ref (He.ga K "WrongValue")) = some (decide (i < 12))
  b1 : ∀ (i : Nat) (n : Str), errN[i]? = some n → PySem.W.kitOne K (.ref (He.ga K n)) (.ref (He.ga K "WrongName")) = some (decide (i = 12 ∨ i = 13))
  b2 : ∀ (i : Nat) (n : Str), errN[i]? = some n → PySem.W.kitOne K (.ref (He.ga K n)) (.ref (He.ga K "NoAnswer")) = some (decide (13 < i))
  p0 : ∀ (i : Nat) (n : Str), errN[i]? = some n → PySem.W.kitOne K (.ref (He.ga K n)) (.type "ValueError") = some (decide (i < 12))
  p1 : ∀ (i : Nat) (n : Str), errN[i]? = some n → PySem.W.kitOne K (.ref (He.ga K n)) (.type "LookupError") = some (decide (i = 12 ∨ i = 13))
  p2 : ∀ (i : Nat) (n : Str), errN[i]? = some n → PySem.W.kitOne K (.ref (He.ga K n)) (.type "ArithmeticError") = some (decide (13 < i))
  exm : ∀ (i : Nat) (n : Str), errN[i]? = some n → PySem.W.exmAny K (.ref (He.ga K n)) [.ref (He.ga K "WrongValue"), .ref (He.ga K "WrongName"), .ref (He.ga K "NoAnswer")] = some true
  nof : ∀ (i : Nat) (n : Str), errN[i]? = some n → ∀ f ∈ [("given" : Str), "index", "limit", "shown"], PySem.W.findIn K (.ref (He.ga K n)) f = some none
structure GlE (K : PySem.W.Frag) (mg : Str → Option Value) : Prop where
  InvalidNumber_ : mg "InvalidNumber" = some (.ref (He.ga K "InvalidNumber"))
  InvalidText_ : mg "InvalidText" = some (.ref (He.ga K "InvalidText"))
  InvalidName_ : mg "InvalidName" = some (.ref (He.ga K "InvalidName"))
  InvalidIndex_ : mg "InvalidIndex" = some (.ref (He.ga K "InvalidIndex"))
  InvalidPromise_ : mg "InvalidPromise" = some (.ref (He.ga K "InvalidPromise"))
  NotAnOrder_ : mg "NotAnOrder" = some (.ref (He.ga K "NotAnOrder"))
  NotNumbers_ : mg "NotNumbers" = some (.ref (He.ga K "NotNumbers"))
  InvalidMeasures_ : mg "InvalidMeasures" = some (.ref (He.ga K "InvalidMeasures"))
  InvalidKinds_ : mg "InvalidKinds" = some (.ref (He.ga K "InvalidKinds"))
  InvalidPeople_ : mg "InvalidPeople" = some (.ref (He.ga K "InvalidPeople"))
  InvalidGenerators_ : mg "InvalidGenerators" = some (.ref (He.ga K "InvalidGenerators"))
  InvalidChanges_ : mg "InvalidChanges" = some (.ref (He.ga K "InvalidChanges"))
  UnknownName_ : mg "UnknownName" = some (.ref (He.ga K "UnknownName"))
  InUse_ : mg "InUse" = some (.ref (He.ga K "InUse"))
  TooMany_ : mg "TooMany" = some (.ref (He.ga K "TooMany"))
  NothingToUndo_ : mg "NothingToUndo" = some (.ref (He.ga K "NothingToUndo"))
  Broken_ : mg "Broken" = some (.ref (He.ga K "Broken"))
  WrongValue_ : mg "WrongValue" = some (.ref (He.ga K "WrongValue"))
  WrongName_ : mg "WrongName" = some (.ref (He.ga K "WrongName"))
  NoAnswer_ : mg "NoAnswer" = some (.ref (He.ga K "NoAnswer"))
  ValueError_ : mg "ValueError" = none
  LookupError_ : mg "LookupError" = none
  ArithmeticError_ : mg "ArithmeticError" = none
theorem ErFs.mono {H H' : Hp} {d : Option Addr} {fs : List (Str × V)} {m : Addr → Prop} (h : ErFs H d fs) (e : Gr m H H') : ErFs H' d fs := by
  rcases h with h | ⟨dd, h1, h2⟩
  · exact .inl h
  · exact .inr ⟨dd, h1, e.still h2 rfl⟩
section
variable {K : PySem.W.Frag} {H : Hp} {Q : VK} {p : Pin} {d : Option Addr} {fs : List (Str × V)}
theorem is_own (T : ErAll K) {i j : Nat} {n m : Str} (hi : errN[i]? = some n) (hf : ErFs H d fs) (hj : errN[j]? = some m) (q : Q (.bl (decide (i = j))) H) : rIsP K (He.ga K n) d p [.ref p.1, .ref (He.ga K m)] H Q :=
  ⟨_, .ref (He.ga K m), _, fs, rfl, fun u r => r, hf, T.own i n j m hi hj, q⟩
theorem is_ref {n m : Str} {b : Bool} (hk : PySem.W.kitOne K (.ref (He.ga K n)) (.ref (He.ga K m)) = some b) (hf : ErFs H d fs) (q : Q (.bl b) H) : rIsP K (He.ga K n) d p [.ref p.1, .ref (He.ga K m)] H Q :=
  ⟨_, .ref (He.ga K m), _, fs, rfl, fun u r => r, hf, hk, q⟩
theorem is_typ {n : Str} {t : String} {b : Bool} (hk : PySem.W.kitOne K (.ref (He.ga K n)) (.type t) = some b) (hf : ErFs H d fs) (q : Q (.bl b) H) : rIsP K (He.ga K n) d p [.ref p.1, .ty t] H Q :=
  ⟨_, .type t, _, fs, rfl, fun u r => r, hf, hk, q⟩
end
def hereB (i : Nat) : List Bool := (List.range 17).map fun j => decide (i = j)
theorem here_count : ∀ i < 17, (hereB i).count true = 1 := by decide
theorem here_at {i : Nat} (h : i < 17) : ((hereB i).map V.bl)[i]? = some (.bl true) := by
  unfold hereB
  rw [List.map_map, List.getElem?_map, List.getElem?_range h]
  simp
theorem here_no {i m : Nat} {z : V} (h : i < 17) (hm : m < i) (hz : ((hereB i).map V.bl)[m]? = some z) : eqV z (.bl true) = false := by
  unfold hereB at hz
  rw [List.map_map, List.getElem?_map, List.getElem?_range (by omega)] at hz
  simp at hz
  subst hz
  have : decide (i = m) = false := decide_eq_false (by omega)
  rw [this]
  rfl
theorem here_flat (i : Nat) : ((hereB i).map V.bl).all flatV = true := by
  rw [List.all_eq_true]
  intro v hv
  obtain ⟨b, _, rfl⟩ := List.mem_map.mp hv
  rfl
theorem errN_lt {i : Nat} {n : Str} (h : errN[i]? = some n) : i < 17 := (List.getElem?_eq_some_iff.mp h).1
theorem shaped_bls (bs : List Bool) : SeqAt.shaped (.list (bs.map PyData.bool)) = true := by
  have h1 : PyData.canLayAll0 (bs.map PyData.bool) = true := by
    induction bs with
    | nil => rfl
    | cons b bs ih => simp only [List.map_cons, PyData.canLayAll0, PyData.canLay0, ih, Bool.and_self]
  unfold SeqAt.shaped
  rw [Bool.and_eq_true]
  refine ⟨by simp only [PyData.canLay0]; exact h1, decide_eq_true ?_⟩
  simp only [PyData.depth, depth_bls]
  decide
theorem eqv_bls : ∀ as bs : List Bool, PyData.eqvAll (as.map PyData.bool) (bs.map PyData.bool) = decide (as = bs)
  | [], [] => by simp [PyData.eqvAll]
  | [], _ :: _ => by simp [PyData.eqvAll]
  | _ :: _, [] => by simp [PyData.eqvAll]
  | a :: as, b :: bs => by
    simp only [List.map_cons, PyData.eqvAll, PyData.eqv]
    rw [eqv_bls as bs]
    cases a <;> cases b <;> simp
end Z

/-! what the head tells of the classes of errors. -/
namespace Z
open PySem PySem.Spec PyProof.Rows L2
theorem errK_ok {K : PySem.W.Frag} {D : Addr} (h : errK K D = true) : ErK K D := by
  unfold errK at h
  simp only [List.all_cons, List.all_nil, id, Bool.and_true, Bool.and_eq_true, decide_eq_true_eq] at h
  obtain ⟨h1, h2, h3, h4, h5, h6, h7, h8, h9⟩ := h
  exact ⟨h1, He.eqO_ok h2, He.eqO_ok h3, h4, h5, He.eqO_ok h6, h7, h8, h9⟩
theorem errAll_ok {K : PySem.W.Frag} (h : errAll K = true) : ErAll K := by
  have one : ∀ (i : Nat) (n : Str), errN[i]? = some n → (errOne K i n).all id = true := fun i n hi => by
    have h1 := List.all_eq_true.mp h i (List.mem_range.mpr (errN_lt hi))
    rw [hi] at h1
    exact h1
  have at_ : ∀ (i : Nat) (n : Str), errN[i]? = some n → ∀ (k : Nat) (b : Bool), (errOne K i n)[k]? = some b → b = true := fun i n hi k b hb => List.all_eq_true.mp (one i n hi) b (List.mem_of_getElem? hb)
  exact ⟨fun i n hi => errK_ok (at_ i n hi 0 _ rfl), fun i n j m hi hj => by
      have h1 := List.all_eq_true.mp (at_ i n hi 1 _ rfl) j (List.mem_range.mpr (errN_lt hj))
      rw [hj] at h1
      exact of_decide_eq_true h1,
    fun i n hi => of_decide_eq_true (at_ i n hi 2 _ rfl), fun i n hi => of_decide_eq_true (at_ i n hi 3 _ rfl), fun i n hi => of_decide_eq_true (at_ i n hi 4 _ rfl), fun i n hi => of_decide_eq_true (at_ i n hi 5 _ rfl), fun i n hi => of_decide_eq_true (at_ i n hi 6 _ rfl),
    fun i n hi => of_decide_eq_true (at_ i n hi 7 _ rfl), fun i n hi => of_decide_eq_true (at_ i n hi 8 _ rfl), fun i n hi f hf => He.eqO_ok (List.all_eq_true.mp (at_ i n hi 9 _ rfl) f hf)⟩
end Z

namespace K11
open PySem PySem.Spec PyProof.Rows L2 Z
local macro_rules | `(tactic| walk_at "rd") => `(tactic| try simp only [cxOf, tSeq, tIfS, tRet, tRetN, tAsg, tDrop, tNext, tBreak, tCont, tNever, tPar, tPar3, tAug, gName, gTup, gCons, gNil, gSub, tVar, tC, tOp, tUn, tCB, tBM, tBM0, tCons, tNil, tTest, tB, tAnd, tOr, tNot, tAndV, tOrV, tNotV, tIf, tChain,
  tTup, tLst, tCall, tMeth, tSl, tPart, tNoPart, tM1, tFmt, tJs_nil, tJs_cons, tCKw, rI0, rI, rU, rEq, rNe, scal_ii, scal_ss, scal_bb, ipI, iStr, iTup, iList, iRng1, sFld, tFld, L2.start, List.getElem?_cons_zero, List.getElem?_cons_succ, List.set_cons_zero, List.set_cons_succ, Option.some.injEq, V.int.injEq, V.bl.injEq, V.str.injEq, V.ref.injEq,
  List.cons.injEq, exists_and_left, exists_eq_left', exists_eq_left, exists_eq_right, exists_eq_right', exists_eq', exists_eq, and_true, true_and, and_self, List.map_cons, List.map_nil, List.length_cons, List.length_nil, List.replicate_succ, List.replicate_zero, List.cons_append, List.nil_append, List.append_nil,
  Nat.add_sub_cancel, Nat.reduceAdd, Nat.reduceSub, if_true, if_false, ite_true, ite_false, Bool.not_true, Bool.not_false, Bool.true_eq_false, Bool.false_eq_true, reduceIte, reduceCtorEq, false_and, exists_false, or_false, false_or, decide_true, decide_false, wipe])

section
variable {P : Program} {w : World} {K : PySem.W.Frag} {mg : Str → Option Value} {base : Heap}
/-! ### is_integer, is_number, is_integer_within -/
abbrev s_is_integer : Stmt := topS 25
theorem sc_is_integer : FnScope ["value"] ["value"] (defScope s_is_integer) := ⟨rfl, rfl, rfl, by decide +kernel, rfl, by decide +kernel, by decide +kernel⟩
def spIsInt (K : PySem.W.Frag) : Sp := fun vs H Q _ => ∃ v d, vs = [v] ∧ DT K H v d ∧ Q (.bl d.isInt) H
theorem ok_is_integer (B : Bl mg) (D0 : Df K mg "is_integer" s_is_integer) : Cal P w K mg base 1 "is_integer" ["value"] (spIsInt K) := by
  refine D0.cal sc_is_integer (fun _ _ _ _ _ _ us hl => match us, hl with | [_], _ => rfl) (fun vs H Q E h => ?_) (fun f cdv A outer s H vs Q E hr h => ?_)
  · obtain ⟨v, d, rfl, _⟩ := h
    rfl
  · obtain ⟨v, d, rfl, hd, q⟩ := h
    refine ⟨_, (pss_one (ps_ret (pe_and (pe_callB (r := rIsi K) call_isi (by rfl) B.isinstance_ (by decide +kernel) (pa_cons (pv 0) (pa_cons (pe_bltn (by rfl) B.int_ (by decide +kernel) (v := .ty "int") rfl) pa_nil))) (pe_one (pe_not (pe_callB (r := rIsi K) call_isi (by rfl) B.isinstance_ (by decide +kernel) (pa_cons (pv 0) (pa_cons (pe_bltn (by rfl) B.bool_ (by decide +kernel) (v := .ty "bool") rfl) pa_nil)))))))), ?_⟩
    walk_at "rd"
    refine isi_int hd.tyd ?_
    walk_at "rd"
    rw [D.isInt_of] at q
    cases hi : d.tg.int?
    · rw [hi] at q
      exact iteF q
    · rw [hi] at q
      refine iteT (isi_bl hd.tyd ?_)
      walk_at "rd"
      exact q
abbrev s_is_integer_within : Stmt := topS 28
theorem sc_is_integer_within : FnScope ["value", "least", "most"] ["value", "least", "most"] (defScope s_is_integer_within) := ⟨rfl, rfl, rfl, by decide +kernel, rfl, by decide +kernel, by decide +kernel⟩
def spIsIn (K : PySem.W.Frag) : Sp := fun vs H Q _ => ∃ v d, ∃ lo hi : Int, vs = [v, .int lo, .int hi] ∧ DT K H v d ∧ Q (.bl (d.isIn lo hi)) H
theorem ok_is_integer_within (c_is_integer : Cal P w K mg base 1 "is_integer" ["value"] (spIsInt K)) (D0 : Df K mg "is_integer_within" s_is_integer_within) :
    Cal P w K mg base 2 "is_integer_within" ["value", "least", "most"] (spIsIn K) := by
  refine D0.cal sc_is_integer_within (fun _ _ _ _ _ _ us hl => match us, hl with | [_, _, _], _ => rfl) (fun vs H Q E h => ?_) (fun f cdv A outer s H vs Q E hr h => ?_)
  · obtain ⟨v, d, lo, hi, rfl, _⟩ := h
    rfl
  · obtain ⟨v, d, lo, up, rfl, hd, q⟩ := h
    refine ⟨_, (pss_one (ps_ret (pe_and (pe_cal c_is_integer hr (by decide) rfl (pa_cons (pv 0) pa_nil)) (pe_one (pe_chain op_le op_le (pv 1) (pv 0) (pv 2)))))), ?_⟩
    walk_at "rd"
    refine ⟨v, d, rfl, hd, ?_⟩
    walk_at "rd"
    cases hi : d.isInt
    · rw [D.isIn_no hi] at q
      exact iteF q
    · obtain ⟨i, rfl⟩ := D.isInt_some hi
      cases hd
      walk_at "rd"
      by_cases h1 : lo ≤ i
      · rw [decide_eq_true h1]
        walk_at "rd"
        have e : D.isIn (.int i) lo up = decide (i ≤ up) := by simp [D.isIn, h1]
        rw [← e]
        exact q
      · rw [decide_eq_false h1]
        walk_at "rd"
        have e : D.isIn (.int i) lo up = false := by simp [D.isIn, h1]
        rw [← e]
        exact q
/-! ### is_name -/
abbrev s_is_name : Stmt := topS 30
theorem sc_is_name : FnScope ["value", "sign"] ["value"] (defScope s_is_name) := ⟨rfl, rfl, rfl, by decide +kernel, rfl, by decide +kernel, by decide +kernel⟩
def spName (K : PySem.W.Frag) : Sp := fun vs H Q _ => ∃ v d, vs = [v] ∧ DT K H v d ∧ d.fits ∧ ∀ H', Ex H H' → Q (.bl d.isName) H'
theorem ok_is_name (B : Bl mg) (k_LONGEST_NAME : ∃ t, mg "_LONGEST_NAME" = some (.int 8 t)) (k_LETTERS : ∃ t, mg "_LETTERS" = some (.str "abcdefghijklmnopqrstuvwxyz" t))
    (k_LETTERS_AND_DIGITS : ∃ t, mg "_LETTERS_AND_DIGITS" = some (.str "abcdefghijklmnopqrstuvwxyz0123456789" t)) (D0 : Df K mg "is_name" s_is_name) : Cal P w K mg base 1 "is_name" ["value"] (spName K) := by
  refine D0.cal sc_is_name (fun _ _ _ _ _ _ us hl => match us, hl with | [_], _ => rfl) (fun vs H Q E h => ?_) (fun f cdv A outer s H vs Q E hr h => ?_)
  · obtain ⟨v, d, rfl, _⟩ := h
    rfl
  · obtain ⟨v, d, rfl, hd, hz, q⟩ := h
    refine ⟨_, (pss_cons (ps_if (PW.pt (pw_or (pt_not (pt_val (pe_callB (r := rIsi K) call_isi (by rfl) B.isinstance_ (by decide +kernel) (pa_cons (pv 0) (pa_cons (pe_bltn (by rfl) B.str_ (by decide +kernel) (v := .ty "str") rfl) pa_nil))))) (pw_or1 (pt_not (pt_chain op_le op_le pe_int (pe_callB call_len_str (by rfl) B.len_ PySem.boot_len (pa_cons (pv 0) pa_nil)) (pe_gi rfl k_LONGEST_NAME)))))) (pss_one (ps_ret pe_bl)) pss_nil)
      (pss_one (ps_ret (pe_and (pe_cmpR op_in_sign (pe_ix ix_str (pv 0) pe_int (fun _ _ => rfl)) (pe_gs rfl k_LETTERS) (by rfl)) (pe_one (pe_callB (r := rAll K) (cr_all rfl) (by rfl) B.all_ (by decide +kernel) (pa_cons (pe_lc (own := [("sign", 1)]) (g := gName 1) rfl sc_is_name.nd (pi_str (pv 0)) (blkOk_by (N := ["value", "sign"]) (sc := defScope s_is_name) (by decide +kernel)) (fun _ _ _ _ _ => (pg_name (i := 1) sc_is_name.nd rfl (.inl rfl))) (fun _ _ _ _ _ => pts_nil) (fun _ _ _ _ _ => (pe_cmpR op_in_sign (pv 1) (pe_gs rfl k_LETTERS_AND_DIGITS) (by rfl)))) pa_nil))))))), ?_⟩
    walk_at "rd"
    refine isi_str hd.tyd ?_
    walk_at "rd"
    cases hi : decide (d.tg = .str)
    · walk_at "rd"
      have e : d.isName = false := by
        cases d <;> first | rfl | cases hi
      rw [e] at q
      exact q H .refl
    · obtain ⟨z, rfl⟩ : ∃ z, d = .str z := by
        cases d <;> first | exact ⟨_, rfl⟩ | cases hi
      cases hd
      walk_at "rd"
      refine ⟨small hz, ?_⟩
      have ez : z.cps.toList.length = z.length := Array.length_toList
      cases hc : z.cps.toList with
      | nil =>
        have e0 : z.length = 0 := by rw [← ez, hc]; rfl
        have e : (D.str z).isName = false := by simp [D.isName, nameOk, e0]
        rw [e] at q
        rw [e0]
        exact iteF (q H .refl)
      | cons c r =>
        have e0 : z.length = r.length + 1 := by rw [← ez, hc]; rfl
        have en := nameOk_iff hc
        rw [decide_eq_true (show (1 : Int) ≤ (z.length : Int) by omega)]
        walk_at "rd"
        by_cases h8 : z.length ≤ 8
        · rw [decide_eq_true (show (z.length : Int) ≤ 8 by omega)]
          walk_at "rd"
          refine ⟨z, 0, c, rfl, rfl, small hz, by rw [hc]; exact atI_nat (j := 0) rfl, ?_⟩
          refine ⟨c, rfl, ?_⟩
          rw [in_letters]
          cases hl : lower c
          · have e : (D.str z).isName = false := by rw [D.isName, en, hl]; simp
            rw [e] at q
            exact iteF (q H .refl)
          · refine iteT ?_
            refine lc_str rfl (by omega) (fun c => .bl (lowdig c)) ?_ ?_
            · intro c' H' Q' _ e q'
              walk_at "rd"
              refine ⟨c', rfl, ?_⟩
              rw [in_lettersdigits]
              exact q' H' .refl
            · intro D1 H' hD e h1
              refine ⟨D1, z.cps.toList.map lowdig, rfl, sqL (by rw [List.map_map]; exact h1), ?_⟩
              have e2 : (D.str z).isName = (z.cps.toList.map lowdig).all id := by
                rw [D.isName, en, hl, decide_eq_true h8, List.all_map]
                rfl
              rw [← e2]
              exact q H' e
        · rw [decide_eq_false (show ¬ (z.length : Int) ≤ 8 by omega)]
          walk_at "rd"
          have e : (D.str z).isName = false := by rw [D.isName, en, decide_eq_false h8]; simp
          rw [e] at q
          exact q H .refl
end
section
variable {P : Program} {w : World} {K : PySem.W.Frag} {mg : Str → Option Value} {base : Heap}
abbrev s_is_number : Stmt := topS 26
theorem sc_is_number : FnScope ["value"] ["value"] (defScope s_is_number) := ⟨rfl, rfl, rfl, by decide +kernel, rfl, by decide +kernel, by decide +kernel⟩
def spIsNum (K : PySem.W.Frag) : Sp := fun vs H Q _ => ∃ v d, vs = [v] ∧ DT K H v d ∧ Q (.bl d.isNum) H
theorem ok_is_number (c_is_integer : Cal P w K mg base 1 "is_integer" ["value"] (spIsInt K)) (D0 : Df K mg "is_number" s_is_number) : Cal P w K mg base 2 "is_number" ["value"] (spIsNum K) := by
  refine D0.cal sc_is_number (fun _ _ _ _ _ _ us hl => match us, hl with | [_], _ => rfl) (fun vs H Q E h => ?_) (fun f cdv A outer s H vs Q E hr h => ?_)
  · obtain ⟨v, d, rfl, _⟩ := h
    rfl
  · obtain ⟨v, d, rfl, hd, q⟩ := h
    refine ⟨_, (pss_one (ps_ret (pe_and (pe_cal c_is_integer hr (by decide) rfl (pa_cons (pv 0) pa_nil)) (pe_one (pe_cmpR op_ge (pv 0) pe_int (nomark _)))))), ?_⟩
    walk_at "rd"
    refine ⟨v, d, rfl, hd, ?_⟩
    walk_at "rd"
    cases hi : d.isInt
    · rw [D.isNum_no hi] at q
      exact iteF q
    · obtain ⟨i, rfl⟩ := D.isInt_some hi
      cases hd
      walk_at "rd"
      exact q
end
end K11

namespace K11
open PySem PySem.Spec PyProof.Rows L2 Z
local macro_rules | `(tactic| walk_at "rd") => `(tactic| try simp only [cxOf, tSeq, tIfS, tRet, tRetN, tAsg, tDrop, tNext, tBreak, tCont, tNever, tPar, tPar3, tAug, gName, gTup, gCons, gNil, gSub, tVar, tC, tOp, tUn, tCB, tBM, tBM0, tCons, tNil, tTest, tB, tAnd, tOr, tNot, tAndV, tOrV, tNotV, tIf, tChain,
  tTup, tLst, tCall, tMeth, tSl, tPart, tNoPart, tM1, tFmt, tJs_nil, tJs_cons, tCKw, rI0, rI, rU, rEq, rNe, scal_ii, scal_ss, scal_bb, ipI, iStr, iTup, iList, iRng1, sFld, tFld, L2.start, List.getElem?_cons_zero, List.getElem?_cons_succ, List.set_cons_zero, List.set_cons_succ, Option.some.injEq, V.int.injEq, V.bl.injEq, V.str.injEq, V.ref.injEq,
  List.cons.injEq, exists_and_left, exists_eq_left', exists_eq_left, exists_eq_right, exists_eq_right', exists_eq', exists_eq, and_true, true_and, and_self, List.map_cons, List.map_nil, List.length_cons, List.length_nil, List.replicate_succ, List.replicate_zero, List.cons_append, List.nil_append, List.append_nil,
  Nat.add_sub_cancel, Nat.reduceAdd, Nat.reduceSub, if_true, if_false, ite_true, ite_false, Bool.not_true, Bool.not_false, Bool.true_eq_false, Bool.false_eq_true, reduceIte, reduceCtorEq, false_and, exists_false, or_false, false_or, decide_true, decide_false, wipe])

def D.areWorths (d : D) (n : Int) : Bool := match d with
  | .tup l => decide ((l.length : Int) = n) && l.all (fun d => d.isIn 0 6)
  | _ => false
def D.short (d : D) : Prop := match d with
  | .tup l => l.length ≤ 1000
  | .str s => s.length ≤ 90000
  | _ => True
theorem D.short.fits {d : D} (h : D.short d) : d.fits := by
  cases d <;> first | exact trivial | exact Nat.le_trans h (by decide)
def D.isKind (d : D) (n : Int) : Bool := match d with
  | .tup [a, b, c] => a.isName && (b.isIn 1 3 && D.areWorths c n)
  | _ => false
/-- the parts of a triple are short -/
def D.short3 (d : D) : Prop := match d with
  | .tup [a, b, c] => D.short a ∧ D.short b ∧ D.short c
  | _ => True
theorem D.tup_of {d : D} (h : decide (d.tg = .tup) = true) : ∃ l, d = .tup l := by
  cases d <;> first | exact ⟨_, rfl⟩ | cases h
theorem D.isKind_not {l : List D} {n : Int} (h : l.length ≠ 3) : D.isKind (.tup l) n = false := by
  cases l with
  | nil => rfl
  | cons a l =>
    cases l with
    | nil => rfl
    | cons b l =>
      cases l with
      | nil => rfl
      | cons c l =>
        cases l with
        | nil => exact absurd rfl h
        | cons d l => rfl
section
variable {P : Program} {w : World} {K : PySem.W.Frag} {mg : Str → Option Value} {base : Heap}
abbrev s_is_tuple_of : Stmt := topS 29
theorem sc_is_tuple_of : FnScope ["value", "many"] ["value", "many"] (defScope s_is_tuple_of) := ⟨rfl, rfl, rfl, by decide +kernel, rfl, by decide +kernel, by decide +kernel⟩
def D.isTupN (d : D) (n : Int) : Bool := match d with
  | .tup l => decide ((l.length : Int) = n)
  | _ => false
def spTupOf (K : PySem.W.Frag) : Sp := fun vs H Q _ => ∃ v d, ∃ n : Int, vs = [v, .int n] ∧ DT K H v d ∧ Q (.bl (D.isTupN d n)) H
theorem ok_is_tuple_of (B : Bl mg) (D0 : Df K mg "is_tuple_of" s_is_tuple_of) : Cal P w K mg base 1 "is_tuple_of" ["value", "many"] (spTupOf K) := by
  refine D0.cal sc_is_tuple_of (fun _ _ _ _ _ _ us hl => match us, hl with | [_, _], _ => rfl) (fun vs H Q E h => ?_) (fun f cdv A outer s H vs Q E hr h => ?_)
  · obtain ⟨v, d, n, rfl, _⟩ := h
    rfl
  · obtain ⟨v, d, n, rfl, hd, q⟩ := h
    refine ⟨_, (pss_one (ps_ret (pe_and (pe_callB (r := rIsi K) call_isi (by rfl) B.isinstance_ (by decide +kernel) (pa_cons (pv 0) (pa_cons (pe_bltn (by rfl) B.tuple_ (by decide +kernel) (v := .ty "tuple") rfl) pa_nil))) (pe_one (pe_cmpR op_eq (pe_callB (r := rLenQ K) call_len_seq (by rfl) B.len_ PySem.boot_len (pa_cons (pv 0) pa_nil)) (pv 1) (nomark _)))))), ?_⟩
    walk_at "rd"
    refine isi_tup hd.tyd ?_
    cases hi : decide (d.tg = .tup)
    · have e : D.isTupN d n = false := by
        cases d <;> first | rfl | cases hi
      rw [e] at q
      exact ⟨false, rfl, iteF q⟩
    · obtain ⟨l, rfl⟩ := D.tup_of hi
      cases hd with
      | tup hS hs =>
        rename_i a xs
        have hl := hs.len
        refine ⟨true, rfl, iteT ⟨a, xs, rfl, .inr hS, rfl, ?_⟩⟩
        have e : D.isTupN (.tup l) n = decide ((xs.length : Int) = n) := by rw [hl]; rfl
        rw [e] at q
        have e2 : decide (V.int (xs.length : Int) = V.int n) = decide ((xs.length : Int) = n) := by
          by_cases z : (xs.length : Int) = n
          · rw [decide_eq_true z, decide_eq_true (congrArg V.int z)]
          · rw [decide_eq_false z, decide_eq_false (fun y => z (V.int.inj y))]
        rw [e2]
        exact q
abbrev s_are_worths : Stmt := topS 38
theorem sc_are_worths : FnScope ["value", "many", "worth"] ["value", "many"] (defScope s_are_worths) := ⟨rfl, rfl, rfl, by decide +kernel, rfl, by decide +kernel, by decide +kernel⟩
def spWorths (K : PySem.W.Frag) : Sp := fun vs H Q _ => ∃ v d, ∃ n : Int, vs = [v, .int n] ∧ DT K H v d ∧ D.short d ∧ ∀ H', Ex H H' → Q (.bl (D.areWorths d n)) H'
theorem ok_are_worths (B : Bl mg) (k_MOST_WORTH : ∃ t, mg "MOST_WORTH" = some (.int 6 t)) (c_is_integer_within : Cal P w K mg base 2 "is_integer_within" ["value", "least", "most"] (spIsIn K)) (c_is_tuple_of : Cal P w K mg base 1 "is_tuple_of" ["value", "many"] (spTupOf K)) (D0 : Df K mg "are_worths" s_are_worths) :
    Cal P w K mg base 3 "are_worths" ["value", "many"] (spWorths K) := by
  refine D0.cal sc_are_worths (fun _ _ _ _ _ _ us hl => match us, hl with | [_, _], _ => rfl) (fun vs H Q E h => ?_) (fun f cdv A outer s H vs Q E hr h => ?_)
  · obtain ⟨v, d, n, rfl, _⟩ := h
    rfl
  · obtain ⟨v, d, n, rfl, hd, hz, q⟩ := h
    refine ⟨_, (pss_one (ps_ret (pe_and (pe_cal c_is_tuple_of hr (by decide) rfl (pa_cons (pv 0) (pa_cons (pv 1) pa_nil))) (pe_one (pe_callB (r := rAll K) (cr_all rfl) (by rfl) B.all_ (by decide +kernel) (pa_cons (pe_lc (own := [("worth", 2)]) (g := gName 2) rfl sc_are_worths.nd (pi_tup (pv 0)) (blkOk_by (N := ["value", "many", "worth"]) (sc := defScope s_are_worths) (by decide +kernel)) (fun _ _ _ _ _ => (pg_name (i := 2) sc_are_worths.nd rfl (.inl rfl))) (fun _ _ _ _ _ => pts_nil) (fun _ _ _ _ _ => (pe_cal c_is_integer_within hr (by decide) rfl (pa_cons (pv 2) (pa_cons pe_int (pa_cons (pe_gi rfl k_MOST_WORTH) pa_nil)))))) pa_nil)))))), ?_⟩
    walk_at "rd"
    refine ⟨v, d, n, rfl, hd, ?_⟩
    cases hi : D.isTupN d n
    · have e : D.areWorths d n = false := by
        cases d <;> first | rfl | (show (decide _ && _) = false; rw [show decide (_ = n) = false from hi]; rfl)
      rw [e] at q
      exact ⟨false, rfl, iteF (q H .refl)⟩
    · obtain ⟨l, rfl⟩ : ∃ l, d = .tup l := by
        cases d <;> first | exact ⟨_, rfl⟩ | cases hi
      refine ⟨true, rfl, iteT ?_⟩
      cases hd with
      | tup hS hs =>
        rename_i a xs
        have hl := hs.len
        have hn : (l.length : Int) = n := of_decide_eq_true hi
        refine lcTf (a := a) (xs := xs) (fun R h => ⟨_, rfl, h⟩) hS (by have : l.length ≤ 1000 := hz; omega) (l.map fun d => .bl (d.isIn 0 6)) (by rw [List.length_map, hl]) ?_ ?_
        · intro i x z H' Q' hx hz' e q'
          obtain ⟨d, h1, h2⟩ := hs.get hx
          rw [List.getElem?_map, h1] at hz'
          cases hz'
          walk_at "rd"
          exact ⟨x, d, 0, 6, rfl, h2.mono e.any, q' H' .refl⟩
        · intro D1 H' hD e h1
          refine ⟨D1, l.map fun d => d.isIn 0 6, rfl, sqL (by rw [List.map_map]; exact h1), ?_⟩
          have e2 : D.areWorths (.tup l) n = (l.map fun d => d.isIn 0 6).all id := by
            rw [D.areWorths, List.all_map, decide_eq_true hn]
            rfl
          rw [← e2]
          exact q H' e
abbrev s_is_kind : Stmt := topS 42
theorem sc_is_kind : FnScope ["value", "worths_wanted", "name", "count", "worths"] ["value", "worths_wanted"] (defScope s_is_kind) := ⟨rfl, rfl, rfl, by decide +kernel, rfl, by decide +kernel, by decide +kernel⟩
def spKind (K : PySem.W.Frag) : Sp := fun vs H Q _ => ∃ v d, ∃ n : Int, vs = [v, .int n] ∧ DT K H v d ∧ D.short3 d ∧ ∀ H', Ex H H' → Q (.bl (D.isKind d n)) H'
theorem ok_is_kind (B : Bl mg) (k_MOST_COUNT : ∃ t, mg "MOST_COUNT" = some (.int 3 t)) (c_is_name : Cal P w K mg base 1 "is_name" ["value"] (spName K))
    (c_is_integer_within : Cal P w K mg base 2 "is_integer_within" ["value", "least", "most"] (spIsIn K)) (c_is_tuple_of : Cal P w K mg base 1 "is_tuple_of" ["value", "many"] (spTupOf K)) (c_are_worths : Cal P w K mg base 3 "are_worths" ["value", "many"] (spWorths K)) (D0 : Df K mg "_is_kind" s_is_kind) :
    Cal P w K mg base 4 "_is_kind" ["value", "worths_wanted"] (spKind K) := by
  refine D0.cal sc_is_kind (fun _ _ _ _ _ _ us hl => match us, hl with | [_, _], _ => rfl) (fun vs H Q E h => ?_) (fun f cdv A outer s H vs Q E hr h => ?_)
  · obtain ⟨v, d, n, rfl, _⟩ := h
    rfl
  · obtain ⟨v, d, n, rfl, hd, hz, q⟩ := h
    refine ⟨_, (pss_cons (ps_if (pt_not (pt_val (pe_cal c_is_tuple_of hr (by decide) rfl (pa_cons (pv 0) (pa_cons pe_int pa_nil))))) (pss_one (ps_ret pe_bl)) pss_nil)
      (pss_cons (ps_asg (pv 0) (pg_tup rfl (pgs_cons (pg_name (i := 2) sc_is_kind.nd rfl (.inl rfl)) (pgs_cons (pg_name (i := 3) sc_is_kind.nd rfl (.inl rfl)) (pgs_cons (pg_name (i := 4) sc_is_kind.nd rfl (.inl rfl)) pgs_nil)))))
      (pss_one (ps_ret (pe_and (pe_cal c_is_name hr (by decide) rfl (pa_cons (pv 2) pa_nil)) (pe_and (pe_cal c_is_integer_within hr (by decide) rfl (pa_cons (pv 3) (pa_cons pe_int (pa_cons (pe_gi rfl k_MOST_COUNT) pa_nil)))) (pe_one (pe_cal c_are_worths hr (by decide) rfl (pa_cons (pv 4) (pa_cons (pv 1) pa_nil)))))))))), ?_⟩
    walk_at "rd"
    refine ⟨v, d, 3, rfl, hd, ?_⟩
    cases hi : D.isTupN d 3
    · have e : D.isKind d n = false := by
        cases d with
        | tup l => exact D.isKind_not (fun z => by rw [show D.isTupN (.tup l) 3 = decide ((l.length : Int) = 3) from rfl, z] at hi; cases hi)
        | _ => rfl
      rw [e] at q
      exact ⟨false, rfl, iteT (q H .refl)⟩
    · obtain ⟨l, rfl⟩ : ∃ l, d = .tup l := by
        cases d <;> first | exact ⟨_, rfl⟩ | cases hi
      refine ⟨true, rfl, iteF ?_⟩
      cases hd with
      | tup hS hs =>
        rename_i a xs
        have hl := hs.len
        have hn3 : xs.length = 3 := by
          have : (l.length : Int) = 3 := of_decide_eq_true hi
          omega
        walk_at "rd"
        obtain ⟨x1, x2, x3, d1, d2, d3, rfl, rfl, h1, h2, h3⟩ := hs.three hn3
        · obtain ⟨z1, z2, z3⟩ := hz
          refine ⟨[x1, x2, x3], hS, rfl, x1, _, rfl, x2, _, rfl, x3, _, rfl, rfl, ?_⟩
          refine ⟨x1, d1, rfl, h1, z1.fits, fun H1 e1 => ?_⟩
          refine ⟨_, rfl, ?_⟩
          have eq : D.isKind (.tup [d1, d2, d3]) n = (d1.isName && (d2.isIn 1 3 && D.areWorths d3 n)) := rfl
          rw [eq] at q
          cases e4 : d1.isName
          · rw [e4] at q
            exact iteF (q H1 e1)
          · refine iteT ⟨x2, d2, 1, 3, rfl, h2.mono e1.any, ?_⟩
            refine ⟨_, rfl, ?_⟩
            cases e5 : d2.isIn 1 3
            · rw [e4, e5] at q
              exact iteF (q H1 e1)
            · rw [e4, e5] at q
              exact iteT ⟨x3, d3, n, rfl, h3.mono e1.any, z3, fun H2 e2 => q H2 (e1.trans e2)⟩
/-! ### names of rows -/
abbrev s_names : Stmt := topS 46
theorem sc_names : FnScope ["rows", "row"] ["rows"] (defScope s_names) := ⟨rfl, rfl, rfl, by decide +kernel, rfl, by decide +kernel, by decide +kernel⟩
def IsRow (K : PySem.W.Frag) (H : Hp) (v : V) (s : Str) : Prop := ∃ a r, v = .ref a ∧ SqT K H a (.str s :: r)
theorem IsRow.mono {H H' : Hp} {v : V} {s : Str} (h : IsRow K H v s) (e : Gr any H H') : IsRow K H' v s := by
  obtain ⟨a, r, rfl, h⟩ := h
  exact ⟨a, r, rfl, e.seqT h⟩
def spNames (K : PySem.W.Frag) : Sp := fun vs H Q _ => ∃ a xs, ∃ ss : List Str, vs = [.ref a] ∧ SqT K H a xs ∧ xs.length = ss.length ∧ ss.length ≤ 1000 ∧ (∀ (i : Nat) x s, xs[i]? = some x → ss[i]? = some s → IsRow K H x s) ∧
  ∀ l H', H l = none → Ex H H' → H' l = some (.lst (ss.map V.str)) → Q (.ref l) H'
theorem ok_names (D0 : Df K mg "_names" s_names) : Cal P w K mg base 1 "_names" ["rows"] (spNames K) := by
  refine D0.cal sc_names (fun _ _ _ _ _ _ us hl => match us, hl with | [_], _ => rfl) (fun vs H Q E h => ?_) (fun f cdv A outer s H vs Q E hr h => ?_)
  · obtain ⟨a, xs, ss, rfl, _⟩ := h
    rfl
  · obtain ⟨a, xs, ss, rfl, hS, hl, hz, hs, q⟩ := h
    refine ⟨_, (pss_one (ps_ret (pe_lc (own := [("row", 1)]) (g := gName 1) rfl sc_names.nd (pi_tup (pv 0)) (blkOk_by (N := ["rows", "row"]) (sc := defScope s_names) (by decide +kernel)) (fun _ _ _ _ _ => (pg_name (i := 1) sc_names.nd rfl (.inl rfl))) (fun _ _ _ _ _ => pts_nil) (fun _ _ _ _ _ => (pe_ix (r := rIxT K) ix_tup (pv 1) pe_int (fun _ _ => rfl)))))), ?_⟩
    walk_at "rd"
    refine lcTf (fun R h => ⟨_, rfl, h⟩) hS (by omega) (ss.map V.str) (by rw [List.length_map, hl]) ?_ ?_
    · intro i x z H' Q' hx hz' e q'
      rw [List.getElem?_map] at hz'
      cases e1 : ss[i]? with
      | none =>
        rw [e1] at hz'
        cases hz'
      | some s =>
        rw [e1] at hz'
        cases hz'
        obtain ⟨b, r, rfl, hb⟩ := (hs i x s hx e1).mono e.any
        walk_at "rd"
        exact ⟨b, _, 0, _, rfl, rfl, hb, atI_nat (j := 0) rfl, q' H' .refl⟩
    · intro D1 H' hD e h1
      exact q D1 H' hD e h1
abbrev s_most_people : Stmt := topS 45
theorem sc_most_people : FnScope ["measures_told"] ["measures_told"] (defScope s_most_people) := ⟨rfl, rfl, rfl, by decide +kernel, rfl, by decide +kernel, by decide +kernel⟩
def spMost : Sp := fun vs H Q _ => ∃ n : Int, vs = [.int n] ∧ Q (.int (if n = 1 then 3 else 2)) H
theorem ok_most_people (k_MOST_PEOPLE : ∃ t, mg "MOST_PEOPLE" = some (.int 3 t)) (D0 : Df K mg "_most_people" s_most_people) : Cal P w K mg base 1 "_most_people" ["measures_told"] spMost := by
  refine D0.cal sc_most_people (fun _ _ _ _ _ _ us hl => match us, hl with | [_], _ => rfl) (fun vs H Q E h => ?_) (fun f cdv A outer s H vs Q E hr h => ?_)
  · obtain ⟨n, rfl, _⟩ := h
    rfl
  · obtain ⟨n, rfl, q⟩ := h
    refine ⟨_, (pss_cons (ps_if (pt_cmpR op_eq (pv 0) pe_int (nomark _)) (pss_one (ps_ret (pe_gi rfl k_MOST_PEOPLE))) pss_nil)
      (pss_one (ps_ret (pe_op op_sub (pe_gi rfl k_MOST_PEOPLE) pe_int)))), ?_⟩
    walk_at "rd"
    by_cases h1 : n = 1
    · rw [if_pos h1] at q
      rw [decide_eq_true h1]
      exact iteT q
    · rw [if_neg h1] at q
      rw [decide_eq_false h1]
      exact iteF q
/-! ### refused kinds, people -/
/-- the texts of a tuple of texts -/
def D.strs (l : List D) : List Str := l.filterMap fun d => match d with
  | .str s => some s
  | _ => none
def D.areRefused (d : D) (ns : List Str) : Bool := match d with
  | .tup l => l.all D.isName && decide (D.strs l = ns.filter fun n => decide (n ∈ D.strs l))
  | _ => false
def D.shorts (d : D) : Prop := match d with
  | .tup l => l.length ≤ 1000 ∧ ∀ d ∈ l, D.short d
  | .str s => s.length ≤ 90000
  | _ => True
theorem strs_all {l : List D} (h : l.all D.isName = true) : l = (D.strs l).map D.str ∧ ∀ s ∈ D.strs l, nameOk s = true := by
  induction l with
  | nil => exact ⟨rfl, fun s hs => by cases hs⟩
  | cons d l ih =>
    rw [List.all_cons, Bool.and_eq_true] at h
    obtain ⟨h1, h2⟩ := h
    obtain ⟨e1, e2⟩ := ih h2
    cases d with
    | str s =>
      have e : D.strs (.str s :: l) = s :: D.strs l := rfl
      rw [e]
      refine ⟨by rw [List.map_cons, ← e1], fun t ht => ?_⟩
      rcases List.mem_cons.mp ht with rfl | ht
      · exact h1
      · exact e2 t ht
    | _ => cases h1
abbrev s_are_refused : Stmt := topS 44
theorem sc_are_refused : FnScope ["value", "kind_names", "name", "word"] ["value", "kind_names"] (defScope s_are_refused) := ⟨rfl, rfl, rfl, by decide +kernel, rfl, by decide +kernel, by decide +kernel⟩
def spRefused (K : PySem.W.Frag) : Sp := fun vs H Q _ => ∃ v d l, ∃ ns : List Str, vs = [v, .ref l] ∧ DT K H v d ∧ D.shorts d ∧ H l = some (.lst (ns.map V.str)) ∧ ns.length ≤ 1000 ∧ ∀ H', Ex H H' → Q (.bl (D.areRefused d ns)) H'
theorem ok_are_refused (B : Bl mg) (c_is_name : Cal P w K mg base 1 "is_name" ["value"] (spName K)) (D0 : Df K mg "_are_refused" s_are_refused) : Cal P w K mg base 2 "_are_refused" ["value", "kind_names"] (spRefused K) := by
  refine D0.cal sc_are_refused (fun _ _ _ _ _ _ us hl => match us, hl with | [_, _], _ => rfl) (fun vs H Q E h => ?_) (fun f cdv A outer s H vs Q E hr h => ?_)
  · obtain ⟨v, d, l, ns, rfl, _⟩ := h
    rfl
  · obtain ⟨v, d, l, ns, rfl, hd, hz, hn, hnl, q⟩ := h
    refine ⟨_, (pss_cons (ps_if (PW.pt (pw_or (pt_not (pt_val (pe_callB (r := rIsi K) call_isi (by rfl) B.isinstance_ (by decide +kernel) (pa_cons (pv 0) (pa_cons (pe_bltn (by rfl) B.tuple_ (by decide +kernel) (v := .ty "tuple") rfl) pa_nil))))) (pw_or1 (pt_not (pt_val (pe_callB (r := rAll K) (cr_all rfl) (by rfl) B.all_ (by decide +kernel) (pa_cons (pe_lc (own := [("word", 3)]) (g := gName 3) rfl sc_are_refused.nd (pi_tup (pv 0)) (blkOk_by (N := ["value", "kind_names", "name", "word"]) (sc := defScope s_are_refused) (by decide +kernel)) (fun _ _ _ _ _ => (pg_name (i := 3) sc_are_refused.nd rfl (.inl rfl))) (fun _ _ _ _ _ => pts_nil) (fun _ _ _ _ _ => (pe_cal c_is_name hr (by decide) rfl (pa_cons (pv 3) pa_nil)))) pa_nil))))))) (pss_one (ps_ret pe_bl)) pss_nil)
      (pss_one (ps_ret (pe_cmpR (r := rEqD K) (op_eqD hr.units) (pv 0) (pe_callTy (r := rTupOf K) call_tuple_of (by rfl) B.tuple_ (by decide +kernel) (pa_cons (pe_lc (own := [("name", 2)]) (g := gName 2) rfl sc_are_refused.nd (pi_list (pv 1)) (blkOk_by (N := ["value", "kind_names", "name", "word"]) (sc := defScope s_are_refused) (by decide +kernel)) (fun _ _ _ _ _ => (pg_name (i := 2) sc_are_refused.nd rfl (.inl rfl))) (fun _ _ _ _ _ => pts_one (pt_cmpR (r := rIn K false) op_in_seq (pv 2) (pv 0) (by rfl))) (fun _ _ _ _ _ => (pv 2))) pa_nil)) (nomark _))))), ?_⟩
    walk_at "rd"
    refine isi_tup hd.tyd ?_
    walk_at "rd"
    cases hi : decide (d.tg = .tup)
    · walk_at "rd"
      have e : D.areRefused d ns = false := by
        cases d <;> first | rfl | cases hi
      rw [e] at q
      exact q H .refl
    · obtain ⟨ds, rfl⟩ := D.tup_of hi
      cases hd with
      | tup hS hs =>
        rename_i a xs
        walk_at "rd"
        have hl := hs.len
        have hl2 : ds.length ≤ 1000 := hz.1
        refine lcTf (fun R h => ⟨_, rfl, h⟩) hS (by omega) (ds.map fun d => .bl d.isName) (by rw [List.length_map, hl]) ?_ ?_
        · intro i x z H' Q' hx hz' e q'
          obtain ⟨d, h1, h2⟩ := hs.get hx
          rw [List.getElem?_map, h1] at hz'
          cases hz'
          walk_at "rd"
          refine ⟨x, d, rfl, h2.mono e.any, (hz.2 d (List.mem_of_getElem? h1)).fits, fun H3 e3 => q' H3 e3⟩
        · intro D1 H1 hD e1 h1
          refine ⟨D1, ds.map D.isName, rfl, sqL (by rw [List.map_map]; exact h1), ?_⟩
          refine ⟨_, rfl, ?_⟩
          have ea : (ds.map D.isName).all id = ds.all D.isName := by rw [List.all_map]; rfl
          rw [ea]
          cases hall : ds.all D.isName
          · have e : D.areRefused (.tup ds) ns = false := by rw [D.areRefused, hall]; rfl
            rw [e] at q
            exact iteT (q H1 e1)
          · refine iteF ?_
            obtain ⟨eds, hok⟩ := strs_all hall
            have exs : xs = (D.strs ds).map V.str := by
              rw [eds] at hs
              exact hs.strs
            subst exs
            refine lcFilt (a := l) (xs := ns.map V.str) (fun R h => ⟨_, rfl, h⟩) (sqL (e1.get hn)) (by rw [List.length_map]; omega) (by show 2 < 4; decide) (fun v => inV v ((D.strs ds).map V.str)) ?_ ?_
            · intro x H' F hx e' q'
              obtain ⟨s', _, rfl⟩ := List.mem_map.mp hx
              walk_at "rd"
              exact ⟨a, _, rfl, .inr ((e1.trans e').seqT hS), rfl, Z.flat_strs _, _, rfl, q' H' .refl⟩
            · intro D2 H2 hD2 e2 h2
              refine ⟨D2, _, rfl, .inl ⟨sqL h2, fun T hT => ?_⟩⟩
              rw [filter_strs]
              have e3 : Ex H1 (upd H2 T (.tup ((ns.filter fun n => inV (.str n) ((D.strs ds).map V.str)).map V.str))) := e2.trans (.new hT)
              refine ⟨.tuple ((D.strs ds).map PyData.str), .tuple ((ns.filter fun n => inV (.str n) ((D.strs ds).map V.str)).map PyData.str), .tup ((e1.trans e3).seqT hS) (dp_strs _), .tup (sqT upd_same) (dp_strs _),
                shaped_strs fun s hs => strOk_of (hok s hs), shaped_strs fun s hs => ?_, ?_⟩
              · have h5 := (List.mem_filter.mp hs).2
                rw [inV_strs] at h5
                exact strOk_of (hok s (of_decide_eq_true h5))
              · have e6 : PyData.eqv (.tuple ((D.strs ds).map PyData.str)) (.tuple ((ns.filter fun n => inV (.str n) ((D.strs ds).map V.str)).map PyData.str)) = D.areRefused (.tup ds) ns := by
                  rw [D.areRefused, hall, Bool.true_and]
                  simp only [PyData.eqv]
                  rw [eqv_strs]
                  have e7 : (fun n => inV (.str n) ((D.strs ds).map V.str)) = fun n => decide (n ∈ D.strs ds) := funext fun n => inV_strs n _
                  rw [e7]
                rw [e6]
                exact q _ (e1.trans e3)
/-! ### a person -/
def D.isPerson (d : D) (ns : List Str) : Bool := match d with
  | .tup [a, b, c] => a.isName && (b.isIn 1 3 && D.areRefused c ns)
  | _ => false
theorem D.isPerson_not {l : List D} {n : List Str} (h : l.length ≠ 3) : D.isPerson (.tup l) n = false := by
  cases l with
  | nil => rfl
  | cons a l =>
    cases l with
    | nil => rfl
    | cons b l =>
      cases l with
      | nil => rfl
      | cons c l =>
        cases l with
        | nil => exact absurd rfl h
        | cons d l => rfl
def D.shortP (d : D) : Prop := match d with
  | .tup [a, b, c] => D.short a ∧ D.short b ∧ D.shorts c
  | _ => True
abbrev s_is_person : Stmt := topS 43
theorem sc_is_person : FnScope ["value", "kind_names", "name", "share", "refused"] ["value", "kind_names"] (defScope s_is_person) := ⟨rfl, rfl, rfl, by decide +kernel, rfl, by decide +kernel, by decide +kernel⟩
def spPerson (K : PySem.W.Frag) : Sp := fun vs H Q _ => ∃ v d l, ∃ ns : List Str, vs = [v, .ref l] ∧ DT K H v d ∧ D.shortP d ∧ H l = some (.lst (ns.map V.str)) ∧ ns.length ≤ 1000 ∧ ∀ H', Ex H H' → Q (.bl (D.isPerson d ns)) H'
theorem ok_is_person (B : Bl mg) (k_MOST_SHARE : ∃ t, mg "MOST_SHARE" = some (.int 3 t)) (c_is_name : Cal P w K mg base 1 "is_name" ["value"] (spName K))
    (c_is_integer_within : Cal P w K mg base 2 "is_integer_within" ["value", "least", "most"] (spIsIn K)) (c_is_tuple_of : Cal P w K mg base 1 "is_tuple_of" ["value", "many"] (spTupOf K)) (c_are_refused : Cal P w K mg base 2 "_are_refused" ["value", "kind_names"] (spRefused K)) (D0 : Df K mg "_is_person" s_is_person) :
    Cal P w K mg base 3 "_is_person" ["value", "kind_names"] (spPerson K) := by
  refine D0.cal sc_is_person (fun _ _ _ _ _ _ us hl => match us, hl with | [_, _], _ => rfl) (fun vs H Q E h => ?_) (fun f cdv A outer s H vs Q E hr h => ?_)
  · obtain ⟨v, d, l, ns, rfl, _⟩ := h
    rfl
  · obtain ⟨v, d, l, ns, rfl, hd, hz, hn, hnl, q⟩ := h
    refine ⟨_, (pss_cons (ps_if (pt_not (pt_val (pe_cal c_is_tuple_of hr (by decide) rfl (pa_cons (pv 0) (pa_cons pe_int pa_nil))))) (pss_one (ps_ret pe_bl)) pss_nil)
      (pss_cons (ps_asg (pv 0) (pg_tup rfl (pgs_cons (pg_name (i := 2) sc_is_person.nd rfl (.inl rfl)) (pgs_cons (pg_name (i := 3) sc_is_person.nd rfl (.inl rfl)) (pgs_cons (pg_name (i := 4) sc_is_person.nd rfl (.inl rfl)) pgs_nil)))))
      (pss_one (ps_ret (pe_and (pe_cal c_is_name hr (by decide) rfl (pa_cons (pv 2) pa_nil)) (pe_and (pe_cal c_is_integer_within hr (by decide) rfl (pa_cons (pv 3) (pa_cons pe_int (pa_cons (pe_gi rfl k_MOST_SHARE) pa_nil)))) (pe_one (pe_cal c_are_refused hr (by decide) rfl (pa_cons (pv 4) (pa_cons (pv 1) pa_nil)))))))))), ?_⟩
    walk_at "rd"
    refine ⟨v, d, 3, rfl, hd, ?_⟩
    cases hi : D.isTupN d 3
    · have e : D.isPerson d ns = false := by
        cases d with
        | tup l => exact D.isPerson_not (fun z => by rw [show D.isTupN (.tup l) 3 = decide ((l.length : Int) = 3) from rfl, z] at hi; cases hi)
        | _ => rfl
      rw [e] at q
      exact ⟨false, rfl, iteT (q H .refl)⟩
    · obtain ⟨l, rfl⟩ : ∃ l, d = .tup l := by
        cases d <;> first | exact ⟨_, rfl⟩ | cases hi
      refine ⟨true, rfl, iteF ?_⟩
      cases hd with
      | tup hS hs =>
        rename_i a xs
        have hl := hs.len
        have hn3 : xs.length = 3 := by
          have : (l.length : Int) = 3 := of_decide_eq_true hi
          omega
        walk_at "rd"
        obtain ⟨x1, x2, x3, d1, d2, d3, rfl, rfl, h1, h2, h3⟩ := hs.three hn3
        obtain ⟨z1, z2, z3⟩ := hz
        refine ⟨[x1, x2, x3], hS, rfl, x1, _, rfl, x2, _, rfl, x3, _, rfl, rfl, ?_⟩
        refine ⟨x1, d1, rfl, h1, z1.fits, fun H1 e1 => ?_⟩
        refine ⟨_, rfl, ?_⟩
        have eq : D.isPerson (.tup [d1, d2, d3]) ns = (d1.isName && (d2.isIn 1 3 && D.areRefused d3 ns)) := rfl
        rw [eq] at q
        cases e4 : d1.isName
        · rw [e4] at q
          exact iteF (q H1 e1)
        · refine iteT ⟨x2, d2, 1, 3, rfl, h2.mono e1.any, ?_⟩
          refine ⟨_, rfl, ?_⟩
          cases e5 : d2.isIn 1 3
          · rw [e4, e5] at q
            exact iteF (q H1 e1)
          · rw [e4, e5] at q
            exact iteT ⟨x3, d3, l, ns, rfl, h3.mono e1.any, z3, e1.get hn, hnl, fun H2 e2 => q H2 (e1.trans e2)⟩
end
end K11

namespace K11
open PySem PySem.Spec PyProof.Rows L2 Z ZE
local macro_rules | `(tactic| walk_at "rd") => `(tactic| try simp only [cxOf, tSeq, tIfS, tRet, tRetN, tAsg, tDrop, tNext, tBreak, tCont, tNever, tPar, tPar3, tAug, gName, gTup, gCons, gNil, gSub, tVar, tC, tOp, tUn, tCB, tBM, tBM0, tCons, tNil, tTest, tB, tAnd, tOr, tNot, tAndV, tOrV, tNotV, tIf, tChain,
  tTup, tLst, tCall, tMeth, tSl, tPart, tNoPart, tM1, tFmt, tJs_nil, tJs_cons, tCKw, rI0, rI, rU, rEq, rNe, scal_ii, scal_ss, scal_bb, ipI, iStr, iTup, iList, iRng1, sFld, tFld, L2.start, List.getElem?_cons_zero, List.getElem?_cons_succ, List.set_cons_zero, List.set_cons_succ, Option.some.injEq, V.int.injEq, V.bl.injEq, V.str.injEq, V.ref.injEq,
  List.cons.injEq, exists_and_left, exists_eq_left', exists_eq_left, exists_eq_right, exists_eq_right', exists_eq', exists_eq, and_true, true_and, and_self, List.map_cons, List.map_nil, List.length_cons, List.length_nil, List.replicate_succ, List.replicate_zero, List.cons_append, List.nil_append, List.append_nil,
  Nat.add_sub_cancel, Nat.reduceAdd, Nat.reduceSub, if_true, if_false, ite_true, ite_false, Bool.not_true, Bool.not_false, Bool.true_eq_false, Bool.false_eq_true, reduceIte, reduceCtorEq, false_and, exists_false, or_false, false_or, decide_true, decide_false, wipe])

section
variable {P : Program} {w : World} {K : PySem.W.Frag} {mg : Str → Option Value} {base : Heap}
abbrev s_check_measures : Stmt := topS 39
theorem sc_check_measures : FnScope ["measures", "at", "name"] ["measures"] (defScope s_check_measures) := ⟨rfl, rfl, rfl, by decide +kernel, rfl, by decide +kernel, by decide +kernel⟩
def spCkM (K : PySem.W.Frag) : Sp := fun vs H Q _ => ∃ a, ∃ ms : List Str, vs = [.ref a] ∧ SqT K H a (ms.map V.str) ∧ (1 ≤ ms.length ∧ ms.length ≤ 2) ∧ (∀ s ∈ ms, nameOk s = true) ∧ ms.Nodup ∧ ∀ H', Ex H H' → Q .non H'
theorem ok_check_measures (B : Bl mg) (k_MOST_MEASURES : ∃ t, mg "_MOST_MEASURES" = some (.int 2 t)) (c_is_name : Cal P w K mg base 1 "is_name" ["value"] (spName K)) (D0 : Df K mg "_check_measures" s_check_measures) :
    Cal P w K mg base 3 "_check_measures" ["measures"] (spCkM K) := by
  refine D0.cal sc_check_measures (fun _ _ _ _ _ _ us hl => match us, hl with | [_], _ => rfl) (fun vs H Q E h => ?_) (fun f cdv A outer s H vs Q E hr h => ?_)
  · obtain ⟨a, ms, rfl, _⟩ := h
    rfl
  · obtain ⟨a, ms, rfl, hS, hl, hn, hd, q⟩ := h
    refine ⟨_, (pss_cons (ps_if (PW.pt (pw_or (pt_not (pt_val (pe_callB (r := rIsi K) call_isi (by rfl) B.isinstance_ (by decide +kernel) (pa_cons (pv 0) (pa_cons (pe_bltn (by rfl) B.tuple_ (by decide +kernel) (v := .ty "tuple") rfl) pa_nil))))) (pw_or1 (pt_cmpR op_eq (pe_callB (r := rLenQ K) call_len_seq (by rfl) B.len_ PySem.boot_len (pa_cons (pv 0) pa_nil)) pe_int (nomark _))))) (pss_one ps_never) pss_nil)
      (pss_one (ps_for PassesOwn.never rfl (pi_enumT rfl B.enumerate_ (pa_cons (pv 0) pa_nil)) (pg_tup rfl (pgs_cons (pg_name (i := 1) sc_check_measures.nd rfl (.inl rfl)) (pgs_cons (pg_name (i := 2) sc_check_measures.nd rfl (.inl rfl)) pgs_nil))) (pss_one (ps_if (PW.pt (pw_or (pt_cmpR op_eq (pv 1) (pe_gi rfl k_MOST_MEASURES) (nomark _)) (pw_or (pt_not (pt_val (pe_cal c_is_name hr (by decide) rfl (pa_cons (pv 2) pa_nil)))) (pw_or1 (pt_cmpR (r := rIn K false) op_in_seq (pv 2) (pe_slice (r := rSlA K) sl_tupA (pv 0) po_none (po_some (pv 1))) (by rfl)))))) (pss_one ps_never) pss_nil))))), ?_⟩
    walk_at "rd"
    refine isi_tup (tyd_sqT hS) ?_
    walk_at "rd"
    refine ⟨a, _, rfl, .inr hS, ?_⟩
    walk_at "rd"
    rw [decide_eq_false (show ¬ ((ms.map V.str).length : Int) = 0 by rw [List.length_map]; omega)]
    walk_at "rd"
    refine forE (fun R h => ⟨_, rfl, h⟩) hS (fun i σ' H' => ∃ y z, σ' = [some (.ref a), y, z] ∧ Ex H H') ⟨_, _, rfl, .refl⟩ (fun i σ' H' p => by
      obtain ⟨_, _, _, e⟩ := p
      exact e.seqT hS) ?_ ?_
    · rintro i x T σ' H' hx ⟨y, z, rfl, e⟩ hT
      obtain ⟨s, hs, rfl⟩ : ∃ s, ms[i]? = some s ∧ x = .str s := by
        rw [List.getElem?_map] at hx
        cases e1 : ms[i]? with
        | none =>
          rw [e1] at hx
          cases hx
        | some s =>
          rw [e1] at hx
          cases hx
          exact ⟨s, rfl, rfl⟩
      have hi : i < ms.length := (List.getElem?_eq_some_iff.mp hs).1
      have hns := hn s (List.mem_of_getElem? hs)
      walk_at "rd"
      refine ⟨_, sqT upd_same, rfl, _, _, rfl, _, _, rfl, rfl, ?_⟩
      walk_at "rd"
      rw [decide_eq_false (show ¬ (i : Int) = 2 by omega)]
      walk_at "rd"
      refine ⟨.str s, .str s, rfl, .str s, Nat.le_trans (nameOk_len hns).2 (by decide), fun H1 e1 => ?_⟩
      refine ⟨true, by rw [D.isName, hns], ?_⟩
      walk_at "rd"
      have e2 : Ex H H1 := (e.trans (.new hT)).trans e1
      refine slA_take (e2.seqT hS) fun p H2 e3 h3 => ?_
      refine ⟨p, _, rfl, .inr h3, rfl, by rw [← List.map_take]; exact Z.flat_strs _, ?_⟩
      walk_at "rd"
      rw [← List.map_take, inV_strs, decide_eq_false (not_mem_take hd hs)]
      walk_at "rd"
      exact ⟨_, _, ⟨rfl, rfl⟩, e2.trans e3⟩
    · rintro σ' H' ⟨y, z, rfl, e⟩
      exact q H' e
theorem all_isIn {ws : List Int} {lo hi : Int} (h : ∀ x ∈ ws, lo ≤ x ∧ x ≤ hi) : (ws.map D.int).all (fun d => d.isIn lo hi) = true := by
  rw [List.all_map, List.all_eq_true]
  intro x hx
  obtain ⟨h1, h2⟩ := h x hx
  show (decide (lo ≤ x) && decide (x ≤ hi)) = true
  rw [decide_eq_true h1, decide_eq_true h2]
  rfl
theorem Kd.isKind {m : Nat} {k : Kd} (h : Kd.ok m k) : D.isKind k.d (m : Int) = true := by
  have e : D.isKind k.d (m : Int) = (nameOk k.n && ((decide (1 ≤ k.c) && decide (k.c ≤ 3)) && (decide (((k.w.map D.int).length : Int) = (m : Int)) && (k.w.map D.int).all fun d => d.isIn 0 6))) := rfl
  rw [e, h.n, decide_eq_true h.c.1, decide_eq_true h.c.2, all_isIn h.w, decide_eq_true (by rw [List.length_map, h.l])]
  rfl
theorem Kd.short {m : Nat} {k : Kd} (h : Kd.ok m k) (hm : m ≤ 2) : D.short3 k.d := by
  refine ⟨?_, trivial, ?_⟩
  · show k.n.length ≤ 90000
    exact Nat.le_trans (nameOk_len h.n).2 (by decide)
  · show (k.w.map D.int).length ≤ 1000
    rw [List.length_map, h.l]
    omega
abbrev s_check_kinds : Stmt := topS 40
theorem sc_check_kinds : FnScope ["kinds", "worths_wanted", "at", "kind"] ["kinds", "worths_wanted"] (defScope s_check_kinds) := ⟨rfl, rfl, rfl, by decide +kernel, rfl, by decide +kernel, by decide +kernel⟩
def spCkK (K : PySem.W.Frag) : Sp := fun vs H Q _ => ∃ a xs, ∃ (m : Nat) (ks : List Kd), vs = [.ref a, .int (m : Int)] ∧ SqT K H a xs ∧ DTs K H xs (ks.map Kd.d) ∧ m ≤ 2 ∧ (1 ≤ ks.length ∧ ks.length ≤ 4) ∧ (∀ k ∈ ks, Kd.ok m k) ∧ (ks.map Kd.n).Nodup ∧
  ∀ H', Ex H H' → Q .non H'
theorem ok_check_kinds (B : Bl mg) (k_MOST_KINDS : ∃ t, mg "MOST_KINDS" = some (.int 4 t)) (c_is_kind : Cal P w K mg base 4 "_is_kind" ["value", "worths_wanted"] (spKind K)) (c_names : Cal P w K mg base 1 "_names" ["rows"] (spNames K)) (D0 : Df K mg "_check_kinds" s_check_kinds) :
    Cal P w K mg base 5 "_check_kinds" ["kinds", "worths_wanted"] (spCkK K) := by
  refine D0.cal sc_check_kinds (fun _ _ _ _ _ _ us hl => match us, hl with | [_, _], _ => rfl) (fun vs H Q E h => ?_) (fun f cdv A outer s H vs Q E hr h => ?_)
  · obtain ⟨a, xs, m, ks, rfl, _⟩ := h
    rfl
  · obtain ⟨a, xs, m, ks, rfl, hS, hs, hm, hl, hk, hd, q⟩ := h
    refine ⟨_, (pss_cons (ps_if (PW.pt (pw_or (pt_not (pt_val (pe_callB (r := rIsi K) call_isi (by rfl) B.isinstance_ (by decide +kernel) (pa_cons (pv 0) (pa_cons (pe_bltn (by rfl) B.tuple_ (by decide +kernel) (v := .ty "tuple") rfl) pa_nil))))) (pw_or1 (pt_cmpR op_eq (pe_callB (r := rLenQ K) call_len_seq (by rfl) B.len_ PySem.boot_len (pa_cons (pv 0) pa_nil)) pe_int (nomark _))))) (pss_one ps_never) pss_nil)
      (pss_one (ps_for PassesOwn.never rfl (pi_enumT rfl B.enumerate_ (pa_cons (pv 0) pa_nil)) (pg_tup rfl (pgs_cons (pg_name (i := 2) sc_check_kinds.nd rfl (.inl rfl)) (pgs_cons (pg_name (i := 3) sc_check_kinds.nd rfl (.inl rfl)) pgs_nil))) (pss_one (ps_if (PW.pt (pw_or (pt_cmpR op_eq (pv 2) (pe_gi rfl k_MOST_KINDS) (nomark _)) (pw_or (pt_not (pt_val (pe_cal c_is_kind hr (by decide) rfl (pa_cons (pv 3) (pa_cons (pv 1) pa_nil))))) (pw_or1 (pt_cmpR (r := rIn K false) op_in_seq (pe_ix (r := rIxT K) ix_tup (pv 3) pe_int (fun _ _ => rfl)) (pe_cal c_names hr (by decide) rfl (pa_cons (pe_slice (r := rSlA K) sl_tupA (pv 0) po_none (po_some (pv 2))) pa_nil)) (by rfl)))))) (pss_one ps_never) pss_nil))))), ?_⟩
    walk_at "rd"
    refine isi_tup (tyd_sqT hS) ?_
    walk_at "rd"
    refine ⟨a, _, rfl, .inr hS, ?_⟩
    walk_at "rd"
    have hxl := hs.lenM
    rw [decide_eq_false (show ¬ (xs.length : Int) = 0 by omega)]
    walk_at "rd"
    refine forE (fun R h => ⟨_, rfl, h⟩) hS (fun i σ' H' => ∃ y z, σ' = [some (.ref a), some (.int (m : Int)), y, z] ∧ Ex H H') ⟨_, _, rfl, .refl⟩ (fun i σ' H' p => by
      obtain ⟨_, _, _, e⟩ := p
      exact e.seqT hS) ?_ ?_
    · rintro i x T σ' H' hx ⟨y, z, rfl, e⟩ hT
      obtain ⟨k, hk1, hk2⟩ := hs.getM hx
      have hi : i < ks.length := (List.getElem?_eq_some_iff.mp hk1).1
      have hok := hk k (List.mem_of_getElem? hk1)
      walk_at "rd"
      refine ⟨_, sqT upd_same, rfl, _, _, rfl, _, _, rfl, rfl, ?_⟩
      walk_at "rd"
      rw [decide_eq_false (show ¬ (i : Int) = 4 by omega)]
      walk_at "rd"
      have e0 : Ex H (upd H' T (.tup [.int (i : Int), x])) := e.trans (.new hT)
      refine ⟨x, k.d, (m : Int), rfl, hk2.mono e0.any, Kd.short hok hm, fun H1 e1 => ?_⟩
      rw [Kd.isKind hok]
      walk_at "rd"
      have e2 : Ex H H1 := e0.trans e1
      obtain ⟨p, b, rfl, h1, h2⟩ := (hk2.mono e2.any).kd
      refine ⟨p, _, 0, _, rfl, rfl, h1, atI_nat (j := 0) rfl, ?_⟩
      refine slA_take (e2.seqT hS) fun p' H2 e3 h3 => ?_
      have e4 := e2.trans e3
      refine ⟨p', _, (ks.map Kd.n).take i, rfl, h3, by rw [List.length_take, List.length_take, List.length_map, hxl], by rw [List.length_take, List.length_map]; omega, fun j x' s' hx' hs' => ?_, fun l H3 hl3 e5 h5 => ?_⟩
      · rw [List.getElem?_take] at hx' hs'
        by_cases hj : j < i
        · rw [if_pos hj] at hx' hs'
          obtain ⟨k', hk1', hk2'⟩ := hs.getM hx'
          rw [List.getElem?_map, hk1'] at hs'
          cases hs'
          obtain ⟨p2, b2, rfl, h6, _⟩ := (hk2'.mono e4.any).kd
          exact ⟨p2, _, rfl, h6⟩
        · rw [if_neg hj] at hx'
          cases hx'
      · refine ⟨l, _, rfl, .inl (sqL h5), rfl, Z.flat_strs _, ?_⟩
        walk_at "rd"
        rw [inV_strs, decide_eq_false (not_mem_take hd (by rw [List.getElem?_map, hk1]; rfl))]
        walk_at "rd"
        exact ⟨_, _, ⟨rfl, rfl⟩, e4.trans e5⟩
    · rintro σ' H' ⟨y, z, rfl, e⟩
      exact q H' e
end
end K11

namespace K11
open PySem PySem.Spec PyProof.Rows L2 Z ZE
local macro_rules | `(tactic| walk_at "rd") => `(tactic| try simp only [cxOf, tSeq, tIfS, tRet, tRetN, tAsg, tDrop, tNext, tBreak, tCont, tNever, tPar, tPar3, tAug, gName, gTup, gCons, gNil, gSub, tVar, tC, tOp, tUn, tCB, tBM, tBM0, tCons, tNil, tTest, tB, tAnd, tOr, tNot, tAndV, tOrV, tNotV, tIf, tChain,
  tTup, tLst, tCall, tMeth, tSl, tPart, tNoPart, tM1, tFmt, tJs_nil, tJs_cons, tCKw, rI0, rI, rU, rEq, rNe, scal_ii, scal_ss, scal_bb, ipI, iStr, iTup, iList, iRng1, sFld, tFld, L2.start, List.getElem?_cons_zero, List.getElem?_cons_succ, List.set_cons_zero, List.set_cons_succ, Option.some.injEq, V.int.injEq, V.bl.injEq, V.str.injEq, V.ref.injEq,
  List.cons.injEq, exists_and_left, exists_eq_left', exists_eq_left, exists_eq_right, exists_eq_right', exists_eq', exists_eq, and_true, true_and, and_self, List.map_cons, List.map_nil, List.length_cons, List.length_nil, List.replicate_succ, List.replicate_zero, List.cons_append, List.nil_append, List.append_nil,
  Nat.add_sub_cancel, Nat.reduceAdd, Nat.reduceSub, if_true, if_false, ite_true, ite_false, Bool.not_true, Bool.not_false, Bool.true_eq_false, Bool.false_eq_true, reduceIte, reduceCtorEq, false_and, exists_false, or_false, false_or, decide_true, decide_false, wipe])

section
variable {P : Program} {w : World} {K : PySem.W.Frag} {mg : Str → Option Value} {base : Heap}
theorem strs_map (rs : List Str) : D.strs (rs.map D.str) = rs := by
  induction rs with
  | nil => rfl
  | cons r rs ih =>
    show r :: D.strs (rs.map D.str) = r :: rs
    rw [ih]
theorem Pn.isPerson {ks : List Str} {p : Pn} (h : Pn.ok ks p) (hk : ∀ s ∈ ks, nameOk s = true) : D.isPerson p.d ks = true := by
  have e : D.isPerson p.d ks = (nameOk p.n && ((decide (1 ≤ p.s) && decide (p.s ≤ 3)) && ((p.r.map D.str).all D.isName && decide (D.strs (p.r.map D.str) = ks.filter fun n => decide (n ∈ D.strs (p.r.map D.str)))))) := rfl
  have e2 : (p.r.map D.str).all D.isName = true := by
    rw [List.all_map, List.all_eq_true]
    intro s hs
    rw [h.r] at hs
    exact hk s (List.mem_filter.mp hs).1
  rw [e, h.n, decide_eq_true h.s.1, decide_eq_true h.s.2, e2, strs_map, decide_eq_true h.r]
  rfl
theorem Pn.short {ks : List Str} {p : Pn} (h : Pn.ok ks p) (hk : ∀ s ∈ ks, nameOk s = true) (hl : ks.length ≤ 1000) : D.shortP p.d := by
  refine ⟨?_, trivial, ?_, ?_⟩
  · show p.n.length ≤ 90000
    exact Nat.le_trans (nameOk_len h.n).2 (by decide)
  · rw [List.length_map, h.r]
    exact Nat.le_trans (List.length_filter_le _ _) hl
  · intro d hd
    obtain ⟨s, hs, rfl⟩ := List.mem_map.mp hd
    rw [h.r] at hs
    show s.length ≤ 90000
    exact Nat.le_trans (nameOk_len (hk s (List.mem_filter.mp hs).1)).2 (by decide)
abbrev s_check_people : Stmt := topS 41
theorem sc_check_people : FnScope ["people", "kind_names", "most", "at", "person"] ["people", "kind_names", "most"] (defScope s_check_people) := ⟨rfl, rfl, rfl, by decide +kernel, rfl, by decide +kernel, by decide +kernel⟩
def spCkP (K : PySem.W.Frag) : Sp := fun vs H Q _ => ∃ a xs l, ∃ (m : Int) (ns : List Str) (ps : List Pn), vs = [.ref a, .ref l, .int m] ∧ SqT K H a xs ∧ DTs K H xs (ps.map Pn.d) ∧ H l = some (.lst (ns.map V.str)) ∧ ns.length ≤ 1000 ∧ (∀ s ∈ ns, nameOk s = true) ∧
  (2 ≤ ps.length ∧ ps.length ≤ 3 ∧ (ps.length : Int) ≤ m) ∧ (∀ p ∈ ps, Pn.ok ns p) ∧ (ps.map Pn.n).Nodup ∧ ∀ H', Ex H H' → Q .non H'
theorem ok_check_people (B : Bl mg) (k_FEWEST_PEOPLE : ∃ t, mg "_FEWEST_PEOPLE" = some (.int 2 t)) (c_is_person : Cal P w K mg base 3 "_is_person" ["value", "kind_names"] (spPerson K)) (c_names : Cal P w K mg base 1 "_names" ["rows"] (spNames K)) (D0 : Df K mg "_check_people" s_check_people) :
    Cal P w K mg base 4 "_check_people" ["people", "kind_names", "most"] (spCkP K) := by
  refine D0.cal sc_check_people (fun _ _ _ _ _ _ us hl => match us, hl with | [_, _, _], _ => rfl) (fun vs H Q E h => ?_) (fun f cdv A outer s H vs Q E hr h => ?_)
  · obtain ⟨a, xs, l, m, ns, ps, rfl, _⟩ := h
    rfl
  · obtain ⟨a, xs, l, m, ns, ps, rfl, hS, hs, hn, hnl, hno, hl, hk, hd, q⟩ := h
    refine ⟨_, (pss_cons (ps_if (PW.pt (pw_or (pt_not (pt_val (pe_callB (r := rIsi K) call_isi (by rfl) B.isinstance_ (by decide +kernel) (pa_cons (pv 0) (pa_cons (pe_bltn (by rfl) B.tuple_ (by decide +kernel) (v := .ty "tuple") rfl) pa_nil))))) (pw_or1 (pt_cmpR op_lt (pe_callB (r := rLenQ K) call_len_seq (by rfl) B.len_ PySem.boot_len (pa_cons (pv 0) pa_nil)) (pe_gi rfl k_FEWEST_PEOPLE) (nomark _))))) (pss_one ps_never) pss_nil)
      (pss_one (ps_for PassesOwn.never rfl (pi_enumT rfl B.enumerate_ (pa_cons (pv 0) pa_nil)) (pg_tup rfl (pgs_cons (pg_name (i := 3) sc_check_people.nd rfl (.inl rfl)) (pgs_cons (pg_name (i := 4) sc_check_people.nd rfl (.inl rfl)) pgs_nil))) (pss_one (ps_if (PW.pt (pw_or (pt_cmpR op_eq (pv 3) (pv 2) (nomark _)) (pw_or (pt_not (pt_val (pe_cal c_is_person hr (by decide) rfl (pa_cons (pv 4) (pa_cons (pv 1) pa_nil))))) (pw_or1 (pt_cmpR (r := rIn K false) op_in_seq (pe_ix (r := rIxT K) ix_tup (pv 4) pe_int (fun _ _ => rfl)) (pe_cal c_names hr (by decide) rfl (pa_cons (pe_slice (r := rSlA K) sl_tupA (pv 0) po_none (po_some (pv 3))) pa_nil)) (by rfl)))))) (pss_one ps_never) pss_nil))))), ?_⟩
    walk_at "rd"
    refine isi_tup (tyd_sqT hS) ?_
    walk_at "rd"
    refine ⟨a, _, rfl, .inr hS, ?_⟩
    walk_at "rd"
    have hxl := hs.lenM
    rw [decide_eq_false (show ¬ (xs.length : Int) < 2 by omega)]
    walk_at "rd"
    refine forE (fun R h => ⟨_, rfl, h⟩) hS (fun i σ' H' => ∃ y z, σ' = [some (.ref a), some (.ref l), some (.int m), y, z] ∧ Ex H H') ⟨_, _, rfl, .refl⟩ (fun i σ' H' p => by
      obtain ⟨_, _, _, e⟩ := p
      exact e.seqT hS) ?_ ?_
    · rintro i x T σ' H' hx ⟨y, z, rfl, e⟩ hT
      obtain ⟨k, hk1, hk2⟩ := hs.getM hx
      have hi : i < ps.length := (List.getElem?_eq_some_iff.mp hk1).1
      have hok := hk k (List.mem_of_getElem? hk1)
      walk_at "rd"
      refine ⟨_, sqT upd_same, rfl, _, _, rfl, _, _, rfl, rfl, ?_⟩
      walk_at "rd"
      rw [decide_eq_false (show ¬ (i : Int) = m by omega)]
      walk_at "rd"
      have e0 : Ex H (upd H' T (.tup [.int (i : Int), x])) := e.trans (.new hT)
      refine ⟨x, k.d, l, ns, rfl, hk2.mono e0.any, Pn.short hok hno hnl, e0.get hn, hnl, fun H1 e1 => ?_⟩
      rw [Pn.isPerson hok hno]
      walk_at "rd"
      have e2 : Ex H H1 := e0.trans e1
      obtain ⟨p, b, rfl, h1, h2⟩ := (hk2.mono e2.any).pn
      refine ⟨p, _, 0, _, rfl, rfl, h1, atI_nat (j := 0) rfl, ?_⟩
      refine slA_take (e2.seqT hS) fun p' H2 e3 h3 => ?_
      have e4 := e2.trans e3
      refine ⟨p', _, (ps.map Pn.n).take i, rfl, h3, by rw [List.length_take, List.length_take, List.length_map, hxl], by rw [List.length_take, List.length_map]; omega, fun j x' s' hx' hs' => ?_, fun l2 H3 hl3 e5 h5 => ?_⟩
      · rw [List.getElem?_take] at hx' hs'
        by_cases hj : j < i
        · rw [if_pos hj] at hx' hs'
          obtain ⟨k', hk1', hk2'⟩ := hs.getM hx'
          rw [List.getElem?_map, hk1'] at hs'
          cases hs'
          obtain ⟨p2, b2, rfl, h6, _⟩ := (hk2'.mono e4.any).pn
          exact ⟨p2, _, rfl, h6⟩
        · rw [if_neg hj] at hx'
          cases hx'
      · refine ⟨l2, _, rfl, .inl (sqL h5), rfl, Z.flat_strs _, ?_⟩
        walk_at "rd"
        rw [inV_strs, decide_eq_false (not_mem_take hd (by rw [List.getElem?_map, hk1]; rfl))]
        walk_at "rd"
        exact ⟨_, _, ⟨rfl, rfl⟩, e4.trans e5⟩
    · rintro σ' H' ⟨y, z, rfl, e⟩
      exact q H' e
abbrev s_text_of : Stmt := topS 47
theorem sc_text_of : FnScope ["measures", "kinds", "people", "rows", "name", "count", "worths", "told", "share", "refused", "without", "worth"] ["measures", "kinds", "people"] (defScope s_text_of) := ⟨rfl, rfl, rfl, by decide +kernel, rfl, by decide +kernel, by decide +kernel⟩
def spText (K : PySem.W.Frag) : Sp := fun vs H Q _ => ∃ a b c kx px, ∃ o : Od, vs = [.ref a, .ref b, .ref c] ∧ SqT K H a (o.ms.map V.str) ∧ SqT K H b kx ∧ DTs K H kx (o.ks.map Kd.d) ∧ SqT K H c px ∧ DTs K H px (o.ps.map Pn.d) ∧ o.ok ∧ ∀ H', Ex H H' → Q (.str o.text) H'
theorem ok_text_of (B : Bl mg) (D0 : Df K mg "_text_of" s_text_of) : Cal P w K mg base 1 "_text_of" ["measures", "kinds", "people"] (spText K) := by
  refine D0.cal sc_text_of (fun _ _ _ _ _ _ us hl => match us, hl with | [_, _, _], _ => rfl) (fun vs H Q E h => ?_) (fun f cdv A outer s H vs Q E hr h => ?_)
  · obtain ⟨a, b, c, kx, px, o, rfl, _⟩ := h
    rfl
  · obtain ⟨a, b, c, kx, px, o, rfl, hM, hK, hKs, hP, hPs, ho, q⟩ := h
    refine ⟨_, (pss_cons (ps_set (i := 3) sc_text_of.nd rfl (.inl rfl) (pe_lst (pa_cons (pe_op op_add_str pe_str (pe_join pe_str (pv 0))) pa_nil)))
      (pss_cons (ps_for PassesOwn.never rfl (pi_tup (pv 1)) (pg_tup rfl (pgs_cons (pg_name (i := 4) sc_text_of.nd rfl (.inl rfl)) (pgs_cons (pg_name (i := 5) sc_text_of.nd rfl (.inl rfl)) (pgs_cons (pg_name (i := 6) sc_text_of.nd rfl (.inl rfl)) pgs_nil)))) (pss_cons (ps_set (i := 7) sc_text_of.nd rfl (.inl rfl) (pe_join pe_str (pe_lc (own := [("worth", 11)]) (g := gName 11) rfl sc_text_of.nd (pi_tup (pv 6)) (blkOk_by (N := ["measures", "kinds", "people", "rows", "name", "count", "worths", "told", "share", "refused", "without", "worth"]) (sc := defScope s_text_of) (by decide +kernel)) (fun _ _ _ _ _ => (pg_name (i := 11) sc_text_of.nd rfl (.inl rfl))) (fun _ _ _ _ _ => pts_nil) (fun _ _ _ _ _ => (pe_callTy call_str_int (by rfl) B.str_ (by decide +kernel) (pa_cons (pv 11) pa_nil))))))
      (pss_one (ps_expr (pe_bm PySem.F.plainAttrs_list PySem.F.slot_list_append PySem.F.type_list_append mt_append (pv 3) (pa_cons (pe_joined (.cons pe_str (.cons (pe_fmt (pv 4)) (.cons pe_str (.cons (pe_fmt (pv 5)) (.cons pe_str (.cons (pe_fmt (pv 7)) PJ.nil))))))) pa_nil))))))
      (pss_cons (ps_for PassesOwn.never rfl (pi_tup (pv 2)) (pg_tup rfl (pgs_cons (pg_name (i := 4) sc_text_of.nd rfl (.inl rfl)) (pgs_cons (pg_name (i := 8) sc_text_of.nd rfl (.inl rfl)) (pgs_cons (pg_name (i := 9) sc_text_of.nd rfl (.inl rfl)) pgs_nil)))) (pss_cons (ps_set (i := 10) sc_text_of.nd rfl (.inl rfl) (pe_join pe_str (pv 9)))
      (pss_one (ps_expr (pe_bm PySem.F.plainAttrs_list PySem.F.slot_list_append PySem.F.type_list_append mt_append (pv 3) (pa_cons (pe_ifExp (pt_truth (pv 9) (by intro _; rfl)) (pe_joined (.cons pe_str (.cons (pe_fmt (pv 4)) (.cons pe_str (.cons (pe_fmt (pv 8)) (.cons pe_str (.cons (pe_fmt (pv 10)) PJ.nil))))))) (pe_joined (.cons pe_str (.cons (pe_fmt (pv 4)) (.cons pe_str (.cons (pe_fmt (pv 8)) PJ.nil)))))) pa_nil))))))
      (pss_one (ps_ret (pe_join pe_str (pv 3))))))), ?_⟩
    walk_at "rd"
    refine ⟨o.ms, .inr hM, by have := Od.joinM ho; omega, ?_, by decide, fun l hl => ?_⟩
    · have h1 := Od.lM ho
      unfold rowM at h1
      rw [app_len] at h1
      exact Nat.le_trans h1 (by decide)
    have hkl := hKs.lenM
    have hpl := hPs.lenM
    have hk4 := ho.k1
    have hp3 := ho.p1
    refine forTp (a := b) (xs := kx) (fun R h => ⟨_, rfl, h⟩) (Gr.seqT (m := nob) (.new hl) hK) (fun i σ' H' => ∃ y4 y5 y6 y7 y8 y9 y10 y11, σ' = [some (.ref a), some (.ref b), some (.ref c), some (.ref l), y4, y5, y6, y7, y8, y9, y10, y11] ∧ Ex H H' ∧ H' l = some (.lst ((rowM o.ms :: (o.ks.take i).map rowK).map V.str)))
      ⟨_, _, _, _, _, _, _, _, rfl, .new hl, upd_same⟩ (fun i σ' H' p => by
        obtain ⟨_, _, _, _, _, _, _, _, _, e, _⟩ := p
        exact e.seqT hK) ?_ ?_
    · rintro i x σ' H' hx ⟨y4, y5, y6, y7, y8, y9, y10, y11, rfl, e, hL⟩
      obtain ⟨k, hk1, hk2⟩ := hKs.getM hx
      have hkm := List.mem_of_getElem? hk1
      have hi : i < o.ks.length := (List.getElem?_eq_some_iff.mp hk1).1
      obtain ⟨p', b', rfl, h1, h2⟩ := (hk2.mono e.any).kd
      walk_at "rd"
      refine ⟨_, h1, rfl, _, _, rfl, _, _, rfl, _, _, rfl, rfl, ?_⟩
      walk_at "rd"
      refine lcTf (a := b') (xs := k.w.map V.int) (fun R h => ⟨_, rfl, h⟩) h2 (by rw [List.length_map, (ho.k2 k hkm).l]; have := ho.m1; omega) ((k.w.map num).map V.str) (by rw [List.length_map, List.length_map, List.length_map]) ?_ ?_
      · intro j x z H2 Q' hx' hz' e2 q'
        rw [List.getElem?_map] at hx'
        rw [List.map_map, List.getElem?_map] at hz'
        cases e3 : k.w[j]? with
        | none =>
          rw [e3] at hx'
          cases hx'
        | some n =>
          rw [e3] at hx' hz'
          cases hx'
          cases hz'
          walk_at "rd"
          have hn := (ho.k2 k hkm).w n (List.mem_of_getElem? e3)
          refine ⟨?_, q' H2 .refl⟩
          have h9 : n.natAbs ≤ 6 := by omega
          exact Nat.lt_of_le_of_lt (Nat.log2_le_self _) (by omega)
      · intro D1 H2 hD e2 h3
        walk_at "rd"
        refine ⟨k.w.map num, .inl (sqL h3), by have := Od.joinW ho hkm; omega, .inl ⟨rfl, _, sqL (e2.get hL)⟩, ?_⟩
        have hlk := Od.lK ho hkm
        unfold rowK at hlk
        simp only [app_len, num] at hlk
        have hnk := (nameOk_len (ho.k2 k hkm).n).2
        have hck : k.c.natAbs.log2 < 1920 := by
          have := (ho.k2 k hkm).c
          exact Nat.lt_of_le_of_lt (Nat.log2_le_self _) (by omega)
        walk_at "rd"
        refine ⟨small (by simp only [app_len]; omega), small (by omega), small (by simp only [app_len]; omega), small (by simp only [app_len]; omega), hck, small (by simp only [app_len]; omega), small (by simp only [app_len]; omega), small (by omega), small (by simp only [app_len]; omega), ?_⟩
        refine ⟨l, _, _, rfl, rfl, e2.get hL, smallt (by simp only [List.length_map, List.length_cons, List.length_take]; omega), ?_⟩
        refine ⟨_, _, _, _, _, _, _, _, ⟨rfl, rfl, rfl, rfl, rfl, rfl, rfl, rfl⟩, (e.trans e2).put (e2.get hL) (.inl hl), ?_⟩
        rw [upd_same, List.take_add_one, hk1]
        simp only [Option.toList_some, List.map_append, List.map_cons, List.map_nil, List.cons_append, List.nil_append, List.append_assoc]
        rfl
    · rintro σ' H' ⟨y4, y5, y6, y7, y8, y9, y10, y11, rfl, e, hL⟩
      rw [hkl, List.take_length] at hL
      walk_at "rd"
      refine forTp (a := c) (xs := px) (fun R h => ⟨_, rfl, h⟩) (e.seqT hP) (fun i σ' H' => ∃ y4 y5 y6 y7 y8 y9 y10 y11, σ' = [some (.ref a), some (.ref b), some (.ref c), some (.ref l), y4, y5, y6, y7, y8, y9, y10, y11] ∧ Ex H H' ∧ H' l = some (.lst ((rowM o.ms :: (o.ks.map rowK ++ (o.ps.take i).map rowP)).map V.str)))
        ⟨_, _, _, _, _, _, _, _, rfl, e, by rw [List.take_zero, List.map_nil, List.append_nil]; exact hL⟩ (fun i σ' H' p => by
          obtain ⟨_, _, _, _, _, _, _, _, _, e, _⟩ := p
          exact e.seqT hP) ?_ ?_
      · rintro i x σ' H2 hx ⟨y4, y5, y6, y7, y8, y9, y10, y11, rfl, e, hL⟩
        obtain ⟨p, hk1, hk2⟩ := hPs.getM hx
        have hpm := List.mem_of_getElem? hk1
        have hi : i < o.ps.length := (List.getElem?_eq_some_iff.mp hk1).1
        obtain ⟨p', b', rfl, h1, h2⟩ := (hk2.mono e.any).pn
        walk_at "rd"
        refine ⟨_, h1, rfl, _, _, rfl, _, _, rfl, _, _, rfl, rfl, ?_⟩
        have hj := Od.joinR ho hpm
        have hjl := join_len (", " : Str) p.r
        walk_at "rd"
        refine ⟨p.r, .inr h2, by omega, .inl ⟨rfl, _, sqL hL⟩, _, .inr (.inl ⟨_, h2, rfl⟩), ?_⟩
        have hnk := (nameOk_len (ho.p3 p hpm).n).2
        have hck : p.s.natAbs.log2 < 1920 := by
          have := (ho.p3 p hpm).s
          exact Nat.lt_of_le_of_lt (Nat.log2_le_self _) (by omega)
        have hlk := Od.lP ho hpm
        have fin : ∀ z : Str, z = rowP p → (upd H2 l (.lst ((rowM o.ms :: (o.ks.map rowK ++ (o.ps.take i).map rowP)).map V.str ++ [V.str z]))) l = some (.lst ((rowM o.ms :: (o.ks.map rowK ++ (o.ps.take (i + 1)).map rowP)).map V.str)) := by
          rintro z rfl
          rw [upd_same, List.take_add_one, hk1]
          simp only [Option.toList_some, List.map_append, List.map_cons, List.map_nil, List.cons_append, List.nil_append, List.append_assoc]
        have hsz : ((rowM o.ms :: (o.ks.map rowK ++ (o.ps.take i).map rowP)).map V.str).length < sizeLine := smallt (by simp only [List.length_map, List.length_cons, List.length_append, List.length_take]; omega)
        by_cases hr0 : p.r = []
        · have er : rowP p = Str.empty ++ ("person " : Str) ++ p.n ++ (" " : Str) ++ num p.s := by rw [rowP, if_pos hr0]
          rw [er] at hlk
          simp only [app_len, num] at hlk
          rw [hr0]
          refine iteF ?_
          walk_at "rd"
          refine ⟨small (by simp only [app_len]; omega), small (by omega), small (by simp only [app_len]; omega), small (by simp only [app_len]; omega), hck, small (by simp only [app_len]; omega), ?_⟩
          refine ⟨l, _, _, rfl, rfl, hL, hsz, ?_⟩
          exact ⟨_, _, _, _, _, _, _, _, ⟨rfl, rfl, rfl, rfl, rfl, rfl, rfl, rfl⟩, e.put hL (.inl hl), fin _ er.symm⟩
        · have er : rowP p = Str.empty ++ ("person " : Str) ++ p.n ++ (" " : Str) ++ num p.s ++ (" without " : Str) ++ Txt.join (", " : Str) p.r := by rw [rowP, if_neg hr0]
          rw [er] at hlk
          simp only [app_len, num] at hlk
          have ene : (!(p.r.map V.str).isEmpty) = true := by
            cases hq : p.r with
            | nil => exact absurd hq hr0
            | cons z r => rfl
          rw [ene]
          refine iteT ?_
          walk_at "rd"
          refine ⟨small (by simp only [app_len]; omega), small (by omega), small (by simp only [app_len]; omega), small (by simp only [app_len]; omega), hck, small (by simp only [app_len]; omega), small (by simp only [app_len]; omega), small (by omega), small (by simp only [app_len]; omega), ?_⟩
          refine ⟨l, _, _, rfl, rfl, hL, hsz, ?_⟩
          exact ⟨_, _, _, _, _, _, _, _, ⟨rfl, rfl, rfl, rfl, rfl, rfl, rfl, rfl⟩, e.put hL (.inl hl), fin _ er.symm⟩
      · rintro σ' H2 ⟨y4, y5, y6, y7, y8, y9, y10, y11, rfl, e, hL⟩
        rw [hpl, List.take_length] at hL
        walk_at "rd"
        refine ⟨_, .inl (sqL hL), by have := Od.joinT ho; omega, ?_⟩
        exact q H2 e
end
end K11

namespace K11
open PySem PySem.Spec PyProof.Rows L2 Z ZE
local macro_rules | `(tactic| walk_at "rd") => `(tactic| try simp only [cxOf, tSeq, tIfS, tRet, tRetN, tAsg, tDrop, tNext, tBreak, tCont, tNever, tPar, tPar3, tAug, gName, gTup, gCons, gNil, gSub, tVar, tC, tOp, tUn, tCB, tBM, tBM0, tCons, tNil, tTest, tB, tAnd, tOr, tNot, tAndV, tOrV, tNotV, tIf, tChain,
  tTup, tLst, tCall, tMeth, tSl, tPart, tNoPart, tM1, tFmt, tJs_nil, tJs_cons, tCKw, rI0, rI, rU, rEq, rNe, scal_ii, scal_ss, scal_bb, ipI, iStr, iTup, iList, iRng1, sFld, tFld, L2.start, List.getElem?_cons_zero, List.getElem?_cons_succ, List.set_cons_zero, List.set_cons_succ, Option.some.injEq, V.int.injEq, V.bl.injEq, V.str.injEq, V.ref.injEq,
  List.cons.injEq, exists_and_left, exists_eq_left', exists_eq_left, exists_eq_right, exists_eq_right', exists_eq', exists_eq, and_true, true_and, and_self, List.map_cons, List.map_nil, List.length_cons, List.length_nil, List.replicate_succ, List.replicate_zero, List.cons_append, List.nil_append, List.append_nil,
  Nat.add_sub_cancel, Nat.reduceAdd, Nat.reduceSub, if_true, if_false, ite_true, ite_false, Bool.not_true, Bool.not_false, Bool.true_eq_false, Bool.false_eq_true, reduceIte, reduceCtorEq, false_and, exists_false, or_false, false_or, decide_true, decide_false, wipe])

def fldsO (m k p : V) (t : Str) : List (Str × V) := putF "_text" (.str t) (putF "_people" p (putF "_kinds" k (putF "_measures" m [])))
theorem fldsO_eq (m k p : V) (t : Str) : fldsO m k p t = ([("_measures", m), ("_kinds", k), ("_people", p), ("_text", .str t)] : List (Str × V)) := by
  have h1 : ¬ (("_measures" : Str) = "_kinds") := by decide +kernel
  have h2 : ¬ (("_measures" : Str) = "_people") := by decide +kernel
  have h3 : ¬ (("_kinds" : Str) = "_people") := by decide +kernel
  have h4 : ¬ (("_measures" : Str) = "_text") := by decide +kernel
  have h5 : ¬ (("_kinds" : Str) = "_text") := by decide +kernel
  have h6 : ¬ (("_people" : Str) = "_text") := by decide +kernel
  unfold fldsO
  simp only [putF, if_neg h1, if_neg h2, if_neg h3, if_neg h4, if_neg h5, if_neg h6]
theorem fl_m (m k p : V) (t : Str) : (fldsO m k p t).lookup ("_measures" : Str) = some m := by
  unfold fldsO
  rw [lookup_putF, if_neg (by decide +kernel), lookup_putF, if_neg (by decide +kernel), lookup_putF, if_neg (by decide +kernel), lookup_putF, if_pos rfl]
theorem fl_k (m k p : V) (t : Str) : (fldsO m k p t).lookup ("_kinds" : Str) = some k := by
  unfold fldsO
  rw [lookup_putF, if_neg (by decide +kernel), lookup_putF, if_neg (by decide +kernel), lookup_putF, if_pos rfl]
theorem fl_p (m k p : V) (t : Str) : (fldsO m k p t).lookup ("_people" : Str) = some p := by
  unfold fldsO
  rw [lookup_putF, if_neg (by decide +kernel), lookup_putF, if_pos rfl]
theorem fl_t (m k p : V) (t : Str) : (fldsO m k p t).lookup ("_text" : Str) = some (.str t) := by
  unfold fldsO
  rw [lookup_putF, if_pos rfl]
theorem fl_noO (m k p : V) (t : Str) {x : Str} (h1 : ¬ x = "_text") (h2 : ¬ x = "_people") (h3 : ¬ x = "_kinds") (h4 : ¬ x = "_measures") : (fldsO m k p t).lookup x = none := by
  unfold fldsO
  rw [lookup_putF, if_neg h1, lookup_putF, if_neg h2, lookup_putF, if_neg h3, lookup_putF, if_neg h4]
  rfl
theorem putF_lenO (f : Str) (v : V) : ∀ l : List (Str × V), (putF f v l).length ≤ l.length + 1
  | [] => Nat.le_refl _
  | (g, u) :: l => by
    have ih := putF_lenO f v l
    simp only [putF]
    split
    · simp
    · simp only [List.length_cons]
      omega
/-- an order's parts -/
structure PartsAt (K : PySem.W.Frag) (H : Hp) (a b c : Addr) (o : Od) : Prop where
  m : SqT K H a (o.ms.map V.str)
  k : ∃ kx, SqT K H b kx ∧ DTs K H kx (o.ks.map Kd.d)
  p : ∃ px, SqT K H c px ∧ DTs K H px (o.ps.map Pn.d)
  ok : o.ok
theorem PartsAt.mono {K : PySem.W.Frag} {H H' : Hp} {a b c : Addr} {o : Od} (h : PartsAt K H a b c o) (e : Gr any H H') : PartsAt K H' a b c o := by
  obtain ⟨kx, k1, k2⟩ := h.k
  obtain ⟨px, p1, p2⟩ := h.p
  exact ⟨e.seqT h.m, ⟨kx, e.seqT k1, k2.mono e⟩, ⟨px, e.seqT p1, p2.mono e⟩, h.ok⟩
/-- an order stands at x -/
def OrdAt (K : PySem.W.Frag) (C : Addr) (H : Hp) (x : Addr) (o : Od) : Prop := ∃ dx a b c, H x = some (.ins C dx (fldsO (.ref a) (.ref b) (.ref c) o.text)) ∧ PartsAt K H a b c o
section
variable {P : Program} {w : World} {K : PySem.W.Frag} {mg : Str → Option Value} {base : Heap} {C : Addr}
/-- what the class Order says of itself -/
structure OrdC (K : PySem.W.Frag) (C : Addr) : Prop where
  cl : Cls K C
  nm : NoAttr K C "_measures"
  nk : NoAttr K C "_kinds"
  np : NoAttr K C "_people"
  nt : NoAttr K C "_text"
abbrev s_Order__init : Stmt := inClass (topS 34) 0
theorem sc_Order__init : FnScope ["self", "measures", "kinds", "people"] ["self", "measures", "kinds", "people"] (defScope s_Order__init) := ⟨rfl, rfl, rfl, by decide +kernel, rfl, by decide +kernel, by decide +kernel⟩
def spInitO (K : PySem.W.Frag) (C : Addr) : Sp := fun vs H Q _ => ∃ x dx a b c, ∃ o : Od, vs = [.ref x, .ref a, .ref b, .ref c] ∧ H x = some (.ins C dx []) ∧ PartsAt K H a b c o ∧
  ∀ H', Gr (· = x) H H' → H' x = some (.ins C dx (fldsO (.ref a) (.ref b) (.ref c) o.text)) → Q .non H'
theorem ok_init (B : Bl mg) (c_check_measures : Cal P w K mg base 3 "_check_measures" ["measures"] (spCkM K)) (c_check_kinds : Cal P w K mg base 5 "_check_kinds" ["kinds", "worths_wanted"] (spCkK K))
    (c_check_people : Cal P w K mg base 4 "_check_people" ["people", "kind_names", "most"] (spCkP K)) (c_names : Cal P w K mg base 1 "_names" ["rows"] (spNames K)) (c_most_people : Cal P w K mg base 1 "_most_people" ["measures_told"] spMost)
    (c_text_of : Cal P w K mg base 1 "_text_of" ["measures", "kinds", "people"] (spText K)) (T : OrdC K C) (D0 : Di K mg "Order" "Order.__init__" C s_Order__init) : Mkr P w K mg base 6 "Order" C ["self", "measures", "kinds", "people"] (spInitO K C) := by
  refine D0.mkr sc_Order__init (fun _ _ _ _ _ _ us hl => match us, hl with | [_, _, _, _], _ => rfl) (fun vs H Q E h => ?_) (fun f cdv A outer s H vs Q E hr h => ?_)
  · obtain ⟨x, dx, a, b, c, o, rfl, _⟩ := h
    rfl
  · obtain ⟨x, dx, a, b, c, o, rfl, hx, hp, q⟩ := h
    refine ⟨_, (pss_cons (ps_expr (pe_cal c_check_measures hr (by decide) rfl (pa_cons (pv 1) pa_nil)))
      (pss_cons (ps_expr (pe_cal c_check_kinds hr (by decide) rfl (pa_cons (pv 2) (pa_cons (pe_callB (r := rLenQ K) call_len_seq (by rfl) B.len_ PySem.boot_len (pa_cons (pv 1) pa_nil)) pa_nil))))
      (pss_cons (ps_expr (pe_cal c_check_people hr (by decide) rfl (pa_cons (pv 3) (pa_cons (pe_cal c_names hr (by decide) rfl (pa_cons (pv 2) pa_nil)) (pa_cons (pe_cal c_most_people hr (by decide) rfl (pa_cons (pe_callB (r := rLenQ K) call_len_seq (by rfl) B.len_ PySem.boot_len (pa_cons (pv 1) pa_nil)) pa_nil)) pa_nil)))))
      (pss_cons (ps_fld (pv 0) (pv 1) rfl)
      (pss_cons (ps_fld (pv 0) (pv 2) rfl)
      (pss_cons (ps_fld (pv 0) (pv 3) rfl)
      (pss_one (ps_fld (pv 0) (pe_cal c_text_of hr (by decide) rfl (pa_cons (pv 1) (pa_cons (pv 2) (pa_cons (pv 3) pa_nil)))) rfl)))))))), ?_⟩
    have ho := hp.ok
    have hm1 := ho.m1
    have hp1 := ho.p1
    have hp2 := ho.p2
    have hk1 := ho.k1
    walk_at "rd"
    refine ⟨a, o.ms, rfl, hp.m, ho.m1, ho.m2, ho.m3, fun H1 e1 => ?_⟩
    have P1 := hp.mono e1.any
    walk_at "rd"
    refine ⟨a, _, rfl, .inr P1.m, ?_⟩
    walk_at "rd"
    obtain ⟨kx, k1, k2⟩ := P1.k
    refine ⟨b, kx, o.ms.length, o.ks, by rw [List.length_map], k1, k2, by omega, ho.k1, ho.k2, ho.k3, fun H2 e2 => ?_⟩
    have P2 := P1.mono e2.any
    obtain ⟨kx2, k3, k4⟩ := P2.k
    walk_at "rd"
    have hkl := k4.lenM
    refine ⟨b, kx2, o.ks.map Kd.n, rfl, k3, by rw [List.length_map, hkl], by rw [List.length_map]; omega, fun i x s hx hs => ?_, fun l H3 hl e3 h3 => ?_⟩
    · obtain ⟨k, h1, h2⟩ := k4.getM hx
      rw [List.getElem?_map, h1] at hs
      cases hs
      obtain ⟨p', b', rfl, h3, _⟩ := h2.kd
      exact ⟨p', _, rfl, h3⟩
    · have P3 := P2.mono e3.any
      refine ⟨a, _, rfl, .inr P3.m, ?_⟩
      walk_at "rd"
      refine ⟨_, rfl, ?_⟩
      obtain ⟨px, p3, p4⟩ := P3.p
      refine ⟨c, px, l, _, o.ks.map Kd.n, o.ps, rfl, p3, p4, h3, by rw [List.length_map]; omega, fun s hs => ?_, ⟨by omega, by omega, ?_⟩, ho.p3, ho.p4, fun H4 e4 => ?_⟩
      · obtain ⟨k, hk, rfl⟩ := List.mem_map.mp hs
        exact (ho.k2 k hk).n
      · rw [List.length_map]
        split
        · omega
        · omega
      · have P4 := P3.mono e4.any
        have e14 := ((e1.trans e2).trans e3).trans e4
        have hx4 := e14.get hx
        walk_at "rd"
        refine ⟨C, dx, [], hx4, T.cl, T.nm, by decide, ?_⟩
        refine ⟨C, dx, _, upd_same, T.cl, T.nk, Nat.lt_of_le_of_lt (putF_lenO _ _ _) (by decide), ?_⟩
        refine ⟨C, dx, _, upd_same, T.cl, T.np, Nat.lt_of_le_of_lt (Nat.le_trans (putF_lenO _ _ _) (Nat.succ_le_succ (putF_lenO _ _ _))) (by decide), ?_⟩
        rw [upd_upd, upd_upd]
        have eu : ∀ fs, Gr (· = x) H4 (upd H4 x (.ins C dx fs)) := fun fs => Gr.refl.puti hx4 (.inr rfl)
        have P5 := P4.mono (eu (putF "_people" (.ref c) (putF "_kinds" (.ref b) (putF "_measures" (.ref a) [])))).any
        obtain ⟨kx5, k5, k6⟩ := P5.k
        obtain ⟨px5, p5, p6⟩ := P5.p
        refine ⟨a, b, c, kx5, px5, o, rfl, P5.m, k5, k6, p5, p6, ho, fun H5 e5 => ?_⟩
        refine ⟨C, dx, _, e5.get upd_same, T.cl, T.nt, Nat.lt_of_le_of_lt (Nat.le_trans (putF_lenO _ _ _) (Nat.succ_le_succ (Nat.le_trans (putF_lenO _ _ _) (Nat.succ_le_succ (putF_lenO _ _ _))))) (by decide), ?_⟩
        refine q _ ?_ upd_same
        exact (e14.of.trans ((eu _).trans e5.of)).puti (e5.get upd_same) (.inr rfl)
end
end K11

/-! orders as a plane: what the program's modules plane and filling work out, as plain functions. -/
namespace K11
open PySem PySem.Spec PyProof.Rows L2 Z ZE
abbrev Pt := Int × Int
/-- the takers of a kind: a person and the point of a thing -/
abbrev Row := List (Nat × Pt)
def ptD (p : Pt) : D := .tup [.int p.1, .int p.2]
def tkD (e : Nat × Pt) : D := .tup [.int (e.1 : Int), ptD e.2]
def rowD (r : Row) : D := .tup (r.map tkD)
def chD (c : List Row) : D := .tup (c.map rowD)
/-- how many people, measures -/
def _root_.Z.Od.m (o : Od) : Nat := o.ms.length
def _root_.Z.Od.np (o : Od) : Nat := o.ps.length
def _root_.Z.Od.P (o : Od) : Int := shares o.ps
/-- what is due, flat -/
def dueF (o : Od) (n : Int) : List (Int × Int) := (o.ps.map (dueP o n)).flatten
def wholeM (o : Od) (n : Int) : Option (List Int) := if (dueF o n).all (fun q => decide (q.2 = 1)) = true then some ((dueF o n).map (·.1)) else none
/-- the point of what people have, told flat -/
def ptOf (m : Nat) (l : List Int) : Pt := ((0 :: l.take (l.length - m)).getD (l.length - m - 1) 0, (0 :: l.take (l.length - m)).getD (l.length - m) 0)
def along (d p : Pt) : Int := d.1 * p.1 + d.2 * p.2
/-- what the person i has of one thing, flat -/
def flatAt (np : Nat) (w : List Int) (i : Nat) : List Int := ((List.range np).map fun p => w.map fun x => if i = p then x else 0).flatten
def ptAt (o : Od) (k : Kd) (i : Nat) : Pt := ptOf k.w.length (flatAt o.np k.w i)
def tkr (o : Od) (k : Kd) (l : List (Pn × Nat)) : Row := (l.filter fun q => !decide (k.n ∈ q.1.r)).map fun q => (q.2, ptAt o k q.2)
def ptsK (o : Od) (k : Kd) : Row := tkr o k o.ps.zipIdx
def ptsO (o : Od) : List Row := o.ks.map (ptsK o)
def sm (i : Int) : Prop := -(2 ^ 64) < i ∧ i < 2 ^ 64
def smP (p : Pt) : Prop := sm p.1 ∧ sm p.2
/-- all directions -/
def axes : List Pt := [(1, 0), (-1, 0), (0, 1), (0, -1)]
def dirB (a : Pt) (r : Row) : List Pt := (r.filter fun b => !decide (a = b.2)).map fun b => (a.2 - b.2.2, b.2.1 - a.1)
def dirR (r : Row) : List Pt := (r.map fun a => dirB a.2 r).flatten
def dirs (rows : List Row) : List Pt := axes ++ (rows.map dirR).flatten
def reaching (r : Row) (d : Pt) (far : Int) : Row := r.filter fun e => decide (along d e.2 = far)
/-- the point of what is due of as many boxes as there are shares -/
def _root_.Z.Od.dp (o : Od) : Pt := ptOf o.m ((wholeM o o.P).getD [])
def roomM (o : Od) (far : List Int) (d : Pt) : Int := o.P * ((o.ks.zip far).map fun q => q.1.c * q.2).sum - along d o.dp
/-- the greatest of some numbers -/
def maxI : List Int → Int
  | [] => 0
  | x :: l => l.foldl max x
def farM (rows : List Row) (d : Pt) : List Int := rows.map fun r => maxI (r.map fun e => along d e.2)
/-- a side: its direction, how far each kind leads, the room -/
abbrev Side := Pt × List Int × Int
def sideD (s : Side) : D := .tup [ptD s.1, .tup (s.2.1.map D.int), .int s.2.2]
def sideM (o : Od) (d : Pt) : Side := (d, farM (ptsO o) d, roomM o (farM (ptsO o) d) d)
def sidesM (o : Od) : List Side := (dirs (ptsO o)).map (sideM o)
/-- the takers behind some sides -/
def tkLoop : List Side → List Row → List Row
  | [], kept => kept
  | s :: l, kept => if s.2.2 < 0 then [] else if s.2.2 = 0 then tkLoop l ((kept.zip s.2.1).map fun q => reaching q.1 s.1 q.2) else tkLoop l kept
def takersM (o : Od) : List Row := if [] ∈ ptsO o then [] else tkLoop (sidesM o) (ptsO o)
/-- a step and a length upright, one step more taken in: Euclid's way with the first numbers -/
def euF : Nat → Int → Int → Int → Int → Int × Int × Int
  | 0, a, u, _, y => (a, u, y)
  | n + 1, a, u, x, y => if x = 0 then (a, u, y) else euF n x y (a - a.fdiv x * x) (u - a.fdiv x * y)
def stp (s : Int × Int × Int) (d : Pt) : Int × Int × Int := ((euF 7 s.1 s.2.1 d.1 d.2).1, (euF 7 s.1 s.2.1 d.1 d.2).2.1, gcdI s.2.2 (euF 7 s.1 s.2.1 d.1 d.2).2.2)
def start (r : Row) : Pt := ((r.head?).map (·.2)).getD (0, 0)
def stepsF (st : Pt) (r : Row) (s : Int × Int × Int) : Int × Int × Int := r.foldl (fun s e => stp s (e.2.1 - st.1, e.2.2 - st.2)) s
def twoM (ch : List Row) : Int × Int × Int := ch.foldl (fun s r => stepsF (start r) r s) (0, 0, 0)
def linesM (s : Int × Int × Int) : List (Pt × Int) := if s.1 = 0 then [((0, 1), s.2.2)] else [((1, 0), (s.1.natAbs : Int)), ((-s.2.1, s.1), (s.1.natAbs : Int) * s.2.2)]
def stepsM (ch : List Row) : List Side := ((linesM (twoM ch)).filter fun l => !decide (l.2 = 0)).map fun l => (l.1, ch.map fun r => along l.1 (start r), l.2)
def divStep (o : Od) (d : Int) (s : Side) : Int := ((Nat.lcm d.natAbs ((o.P * s.2.2) / (gcdI (roomM o s.2.1 s.1) (o.P * s.2.2))).natAbs : Nat) : Int)
def divM (o : Od) (ch : List Row) : Int := (stepsM ch).foldl (divStep o) 1
end K11

namespace K11
open PySem PySem.Spec PyProof.Rows L2 Z ZE
local macro_rules | `(tactic| walk_at "rd") => `(tactic| try simp only [cxOf, tSeq, tIfS, tRet, tRetN, tAsg, tDrop, tNext, tBreak, tCont, tNever, tPar, tPar3, tAug, gName, gTup, gCons, gNil, gSub, tVar, tC, tOp, tUn, tCB, tBM, tBM0, tCons, tNil, tTest, tB, tAnd, tOr, tNot, tAndV, tOrV, tNotV, tIf, tChain,
  tTup, tLst, tCall, tMeth, tSl, tPart, tNoPart, tM1, tFmt, tJs_nil, tJs_cons, tCKw, rI0, rI, rU, rEq, rNe, scal_ii, scal_ss, scal_bb, ipI, iStr, iTup, iList, iRng1, sFld, tFld, L2.start, List.getElem?_cons_zero, List.getElem?_cons_succ, List.set_cons_zero, List.set_cons_succ, Option.some.injEq, V.int.injEq, V.bl.injEq, V.str.injEq, V.ref.injEq,
  List.cons.injEq, exists_and_left, exists_eq_left', exists_eq_left, exists_eq_right, exists_eq_right', exists_eq', exists_eq, and_true, true_and, and_self, List.map_cons, List.map_nil, List.length_cons, List.length_nil, List.replicate_succ, List.replicate_zero, List.cons_append, List.nil_append, List.append_nil,
  Nat.add_sub_cancel, Nat.reduceAdd, Nat.reduceSub, if_true, if_false, ite_true, ite_false, Bool.not_true, Bool.not_false, Bool.true_eq_false, Bool.false_eq_true, reduceIte, reduceCtorEq, false_and, exists_false, or_false, false_or, decide_true, decide_false, wipe])

section
variable {P : Program} {w : World} {K : PySem.W.Frag} {mg : Str → Option Value} {base : Heap}
abbrev s_lowest : Stmt := topS 52
theorem sc_lowest : FnScope ["top", "bottom", "common"] ["top", "bottom"] (defScope s_lowest) := ⟨rfl, rfl, rfl, by decide +kernel, rfl, by decide +kernel, by decide +kernel⟩
def spLowest (K : PySem.W.Frag) : Sp := fun vs H Q _ => ∃ t b : Int, vs = [.int t, .int b] ∧ 0 < b ∧ b < 1000000 ∧ ∀ p H', Ex H H' → DT K H' (.ref p) (pairD (lowest t b)) → Q (.ref p) H'
theorem ok_lowest (g_gcd : mg "gcd" = some (.builtin "math.gcd")) (D0 : Df K mg "_lowest" s_lowest) : Cal P w K mg base 1 "_lowest" ["top", "bottom"] (spLowest K) := by
  refine D0.cal sc_lowest (fun _ _ _ _ _ _ us hl => match us, hl with | [_, _], _ => rfl) (fun vs H Q E h => ?_) (fun f cdv A outer s H vs Q E hr h => ?_)
  · obtain ⟨t, b, rfl, _⟩ := h
    rfl
  · obtain ⟨t, b, rfl, h1, h2, q⟩ := h
    refine ⟨_, (pss_cons (ps_set (i := 2) sc_lowest.nd rfl (.inl rfl) (pe_callBfun cr_gcd (by rfl) g_gcd (pa_cons (pv 0) (pa_cons (pv 1) pa_nil))))
      (pss_one (ps_ret (pe_tup (pa_cons (pe_op op_fdiv (pv 0) (pv 2)) (pa_cons (pe_op op_fdiv (pv 1) (pv 2)) pa_nil)))))), ?_⟩
    walk_at "rd"
    refine ⟨t, b, rfl, ?_⟩
    walk_at "rd"
    have g1 := gcdI_pos (t := t) h1
    have g2 := gcdI_le (t := t) h1
    refine ⟨⟨g1, Int.lt_of_le_of_lt g2 (by omega)⟩, ⟨g1, Int.lt_of_le_of_lt g2 (by omega)⟩, by decide, fun p hp => ?_⟩
    exact q p _ (.new hp) (.ofPair (q := lowest t b) (sqT upd_same))
abbrev s_parts : Stmt := topS 51
theorem sc_parts : FnScope ["totals", "share", "all_shares", "total"] ["totals", "share", "all_shares"] (defScope s_parts) := ⟨rfl, rfl, rfl, by decide +kernel, rfl, by decide +kernel, by decide +kernel⟩
def spParts (K : PySem.W.Frag) : Sp := fun vs H Q _ => ∃ l, ∃ (ts : List Int) (s b : Int), vs = [.ref l, .int s, .int b] ∧ H l = some (.lst (ts.map V.int)) ∧ ts.length ≤ 1000 ∧ (1 ≤ s ∧ s ≤ 3) ∧ (0 < b ∧ b < 1000000) ∧
  ∀ v H', Ex H H' → DT K H' v (.tup (ts.map fun t => pairD (lowest (t * s) b))) → Q v H'
theorem ok_parts (B : Bl mg) (c_lowest : Cal P w K mg base 1 "_lowest" ["top", "bottom"] (spLowest K)) (D0 : Df K mg "_parts" s_parts) : Cal P w K mg base 2 "_parts" ["totals", "share", "all_shares"] (spParts K) := by
  refine D0.cal sc_parts (fun _ _ _ _ _ _ us hl => match us, hl with | [_, _, _], _ => rfl) (fun vs H Q E h => ?_) (fun f cdv A outer s H vs Q E hr h => ?_)
  · obtain ⟨l, ts, s, b, rfl, _⟩ := h
    rfl
  · obtain ⟨l, ts, s', b, rfl, hL, hl, hs, hb, q⟩ := h
    refine ⟨_, (pss_one (ps_ret (pe_callTy (r := rTupOf K) call_tuple_of (by rfl) B.tuple_ (by decide +kernel) (pa_cons (pe_lc (own := [("total", 3)]) (g := gName 3) rfl sc_parts.nd (pi_list (pv 0)) (blkOk_by (N := ["totals", "share", "all_shares", "total"]) (sc := defScope s_parts) (by decide +kernel)) (fun _ _ _ _ _ => (pg_name (i := 3) sc_parts.nd rfl (.inl rfl))) (fun _ _ _ _ _ => pts_nil) (fun _ _ _ _ _ => (pe_cal c_lowest hr (by decide) rfl (pa_cons (pe_op op_mul (pv 3) (pv 1)) (pa_cons (pv 2) pa_nil))))) pa_nil)))), ?_⟩
    walk_at "rd"
    refine lcL0 (a := l) (xs := ts.map V.int) (fun R h => ⟨_, rfl, h⟩) (sqL hL) (by rw [List.length_map]; omega) (fun i y H' => ∃ t, ts[i]? = some t ∧ DT K H' y (pairD (lowest (t * s') b)))
      (fun i y H1 H2 ⟨t, h1, h2⟩ e => ⟨t, h1, h2.mono e⟩) ?_ ?_
    · intro i x H' Q' hx e q'
      rw [List.getElem?_map] at hx
      cases e1 : ts[i]? with
      | none =>
        rw [e1] at hx
        cases hx
      | some t =>
        rw [e1] at hx
        cases hx
        walk_at "rd"
        refine ⟨.inr ⟨by omega, by omega⟩, _, _, rfl, hb.1, hb.2, fun p H3 e3 h3 => q' _ H3 e3 ⟨t, e1, h3⟩⟩
    · intro D1 ys H' hD e h1 h2 h3
      refine ⟨D1, ys, rfl, .inl ⟨sqL h1, fun T hT => ?_⟩⟩
      have e2 : Ex H (upd H' T (.tup ys)) := e.trans (.new hT)
      refine q _ _ e2 (.tup (sqT upd_same) (DTs.of (by rw [h2, List.length_map, List.length_map]) fun i y hy => ?_))
      obtain ⟨t, h4, h5⟩ := h3 i y hy
      exact ⟨_, by rw [List.getElem?_map, h4]; rfl, h5.mono (.new hT)⟩
abbrev s_box_worth : Stmt := topS 50
theorem sc_box_worth : FnScope ["kinds", "place", "name", "count", "worths"] ["kinds", "place"] (defScope s_box_worth) := ⟨rfl, rfl, rfl, by decide +kernel, rfl, by decide +kernel, by decide +kernel⟩
def spWorth (K : PySem.W.Frag) : Sp := fun vs H Q _ => ∃ a xs, ∃ (ks : List Kd) (m j : Nat), vs = [.ref a, .int (j : Int)] ∧ SqT K H a xs ∧ DTs K H xs (ks.map Kd.d) ∧ (∀ k ∈ ks, Kd.ok m k) ∧ ks.length ≤ 4 ∧ j < m ∧ ∀ H', Ex H H' → Q (.int (worth ks j)) H'
theorem ok_box_worth (B : Bl mg) (D0 : Df K mg "_box_worth" s_box_worth) : Cal P w K mg base 1 "_box_worth" ["kinds", "place"] (spWorth K) := by
  refine D0.cal sc_box_worth (fun _ _ _ _ _ _ us hl => match us, hl with | [_, _], _ => rfl) (fun vs H Q E h => ?_) (fun f cdv A outer s H vs Q E hr h => ?_)
  · obtain ⟨a, xs, ks, m, j, rfl, _⟩ := h
    rfl
  · obtain ⟨a, xs, ks, m, j, rfl, hS, hs, hk, hl, hj, q⟩ := h
    refine ⟨_, (pss_one (ps_ret (pe_callB (r := rSum K) (cr_sum rfl) (by rfl) B.sum_ (by decide +kernel) (pa_cons (pe_lc (own := [("name", 2), ("count", 3), ("worths", 4)]) (g := gTup K 3 (gCons (gName 2) (gCons (gName 3) (gCons (gName 4) gNil)))) rfl sc_box_worth.nd (pi_tup (pv 0)) (blkOk_by (N := ["kinds", "place", "name", "count", "worths"]) (sc := defScope s_box_worth) (by decide +kernel)) (fun _ _ _ _ _ => (by exact (pg_tup rfl (pgs_cons (pg_name (i := 2) sc_box_worth.nd rfl (.inl rfl)) (pgs_cons (pg_name (i := 3) sc_box_worth.nd rfl (.inl rfl)) (pgs_cons (pg_name (i := 4) sc_box_worth.nd rfl (.inl rfl)) pgs_nil)))))) (fun _ _ _ _ _ => pts_nil) (fun _ _ _ _ _ => (pe_op op_mul (pv 3) (pe_ix (r := rIxT K) ix_tup (pv 4) (pv 1) (fun _ _ => rfl))))) pa_nil)))), ?_⟩
    walk_at "rd"
    have hxl := hs.lenM
    refine lcTf (a := a) (xs := xs) (fun R h => ⟨_, rfl, h⟩) hS (by omega) ((ks.map fun k => k.c * k.w.getD j 0).map V.int) (by rw [List.length_map, List.length_map, hxl]) ?_ ?_
    · intro i x z H' Q' hx hz' e q'
      obtain ⟨k, h1, h2⟩ := hs.getM hx
      rw [List.map_map, List.getElem?_map, h1] at hz'
      cases hz'
      have hok := hk k (List.mem_of_getElem? h1)
      obtain ⟨p, b, rfl, h3, h4⟩ := (h2.mono e.any).kd
      walk_at "rd"
      refine ⟨_, h3, rfl, _, _, rfl, _, _, rfl, _, _, rfl, rfl, ?_⟩
      walk_at "rd"
      have hjl : j < k.w.length := by rw [hok.l]; exact hj
      have hg : k.w.getD j 0 = k.w[j] := by rw [List.getD_eq_getElem?_getD, List.getElem?_eq_getElem hjl]; rfl
      refine ⟨b, _, (j : Int), .int (k.w.getD j 0), rfl, rfl, h4, atI_nat (by rw [List.getElem?_map, List.getElem?_eq_getElem hjl, hg]; rfl), ?_⟩
      walk_at "rd"
      have hc := hok.c
      exact ⟨.inl ⟨by omega, by omega⟩, q' H' .refl⟩
    · intro D1 H' hD e h1
      refine ⟨D1, _, rfl, sqL h1, ?_⟩
      exact q H' e
end
end K11

namespace K11
open PySem PySem.Spec PyProof.Rows L2 Z ZE
local macro_rules | `(tactic| walk_at "rd") => `(tactic| try simp only [cxOf, tSeq, tIfS, tRet, tRetN, tAsg, tDrop, tNext, tBreak, tCont, tNever, tPar, tPar3, tAug, gName, gTup, gCons, gNil, gSub, tVar, tC, tOp, tUn, tCB, tBM, tBM0, tCons, tNil, tTest, tB, tAnd, tOr, tNot, tAndV, tOrV, tNotV, tIf, tChain,
  tTup, tLst, tCall, tMeth, tSl, tPart, tNoPart, tM1, tFmt, tJs_nil, tJs_cons, tCKw, rI0, rI, rU, rEq, rNe, scal_ii, scal_ss, scal_bb, ipI, iStr, iTup, iList, iRng1, sFld, tFld, L2.start, List.getElem?_cons_zero, List.getElem?_cons_succ, List.set_cons_zero, List.set_cons_succ, Option.some.injEq, V.int.injEq, V.bl.injEq, V.str.injEq, V.ref.injEq,
  List.cons.injEq, exists_and_left, exists_eq_left', exists_eq_left, exists_eq_right, exists_eq_right', exists_eq', exists_eq, and_true, true_and, and_self, List.map_cons, List.map_nil, List.length_cons, List.length_nil, List.replicate_succ, List.replicate_zero, List.cons_append, List.nil_append, List.append_nil,
  Nat.add_sub_cancel, Nat.reduceAdd, Nat.reduceSub, if_true, if_false, ite_true, ite_false, Bool.not_true, Bool.not_false, Bool.true_eq_false, Bool.false_eq_true, reduceIte, reduceCtorEq, false_and, exists_false, or_false, false_or, decide_true, decide_false, wipe])

section
variable {P : Program} {w : World} {K : PySem.W.Frag} {mg : Str → Option Value} {base : Heap}
abbrev s_law_cell : Stmt := topS 94
theorem sc_law_cell : FnScope ["_law_cells", "_law_spot", "_law_mixed", "_law_number"] ["_law_cells", "_law_spot"] (defScope s_law_cell) := ⟨rfl, rfl, rfl, by decide +kernel, rfl, by decide +kernel, by decide +kernel⟩
def spCell (K : PySem.W.Frag) : Sp := fun vs H Q _ => ∃ a, ∃ (k : Int) (ns : List Int), vs = [.ref a, .int k] ∧ SqL K H a (ns.map V.int) ∧ ns.length ≤ 63 ∧ (0 ≤ k ∧ k < 1000) ∧ ∀ r H', Ex H H' → Q (.int r) H'
theorem ok_law_cell (B : Bl mg) (D0 : Df K mg "_law_cell" s_law_cell) : Cal P w K mg base 1 "_law_cell" ["_law_cells", "_law_spot"] (spCell K) := by
  refine D0.cal sc_law_cell (fun _ _ _ _ _ _ us hl => match us, hl with | [_, _], _ => rfl) (fun vs H Q E h => ?_) (fun f cdv A outer s H vs Q E hr h => ?_)
  · obtain ⟨a, k, ns, rfl, _⟩ := h
    rfl
  · obtain ⟨a, k, ns, rfl, hS, hl, hk, q⟩ := h
    refine ⟨_, (pss_cons (ps_if (pt_cmpR op_lt (pv 1) (pe_callB (r := rLenQ K) call_len_seq (by rfl) B.len_ PySem.boot_len (pa_cons (pv 0) pa_nil)) (nomark _)) (pss_one (ps_ret (pe_callTy call_int1 (by rfl) B.int_ (by decide +kernel) (pa_cons (pe_ix (r := rIxL K) ix_list (pv 0) (pv 1) (fun _ _ => rfl)) pa_nil)))) pss_nil)
      (pss_cons (ps_set (i := 2) sc_law_cell.nd rfl (.inl rfl) (pe_op op_add (pe_op op_mul pe_int (pv 1)) pe_int))
      (pss_cons (ps_for PassesOwn.never rfl (pi_list (pe_slice (r := rSlL K) sl_list (pv 0) po_none (po_some pe_int))) (pg_name (i := 3) sc_law_cell.nd rfl (.inl rfl)) (pss_one (ps_set (i := 2) sc_law_cell.nd rfl (.inl rfl) (pe_op op_mod (pe_callTy call_int1 (by rfl) B.int_ (by decide +kernel) (pa_cons (pe_op op_add (pe_op op_add (pe_op op_mul (pv 2) pe_int) (pv 3)) pe_int) pa_nil)) pe_int))))
      (pss_one (ps_ret (pv 2)))))), ?_⟩
    walk_at "rd"
    refine ⟨a, _, rfl, .inl hS, ?_⟩
    walk_at "rd"
    rw [List.length_map]
    by_cases hlt : k < (ns.length : Int)
    · rw [decide_eq_true hlt]
      refine iteT ?_
      obtain ⟨v, hv, ev⟩ := atJ (xs := ns.map V.int) (r := k) hk.1 (by rw [List.length_map]; exact hlt)
      obtain ⟨i, _, rfl⟩ := List.mem_map.mp hv
      exact ⟨a, _, k, _, rfl, rfl, hS, ev, .inl ⟨i, rfl, q i H .refl⟩⟩
    · rw [decide_eq_false hlt]
      refine iteF ⟨.inr ⟨by omega, by omega⟩, ?_⟩
      refine forLj (fun p xs H1 => Ex H H1 ∧ H1 p = some (.lst xs) ∧ ∀ x ∈ xs, ∃ n : Int, x = .int n) (fun R h => ⟨_, rfl, 4, rfl, a, _, rfl, hS, fun p hp => h p _ _ ⟨.new hp, upd_same, fun x hx => ?_⟩⟩) (fun p xs H1 c => sqL c.2.1)
        (fun p xs i σ' H' => ∃ (sd : Int) (y : Option V), σ' = [some (.ref a), some (.int k), some (.int sd), y] ∧ Ex H H' ∧ H' p = some (.lst xs) ∧ ∀ x ∈ xs, ∃ n : Int, x = .int n) (fun p xs H1 c => ⟨_, _, rfl, c⟩) (fun p xs i σ' H' c => by
          obtain ⟨_, _, _, _, c, _⟩ := c
          exact sqL c) ?_ ?_
      · rw [show cutV (ns.map V.int) none (some 4) = (ns.map V.int).take 4 from cut_take 4] at hx
        obtain ⟨n, _, rfl⟩ := List.mem_map.mp (List.mem_of_mem_take hx)
        exact ⟨n, rfl⟩
      · rintro p xs i x σ' H' hx ⟨sd, y, rfl, e, h1, h2⟩
        obtain ⟨n, rfl⟩ := h2 x (List.mem_of_getElem? hx)
        walk_at "rd"
        refine ⟨.inr ⟨by omega, by omega⟩, by omega, ?_⟩
        exact ⟨_, _, ⟨rfl, rfl⟩, e, h1, h2⟩
      · rintro p xs σ' H' ⟨sd, y, rfl, e, h1, h2⟩
        walk_at "rd"
        exact q sd H' e
abbrev s_law_jar : Stmt := topS 95
theorem sc_law_jar : FnScope ["_law_cells", "_law_spot", "_law_cell_here"] ["_law_cells", "_law_spot"] (defScope s_law_jar) := ⟨rfl, rfl, rfl, by decide +kernel, rfl, by decide +kernel, by decide +kernel⟩
def spJar (K : PySem.W.Frag) : Sp := fun vs H Q _ => ∃ a, ∃ (k : Int) (ns : List Int), vs = [.ref a, .int k] ∧ SqL K H a (ns.map V.int) ∧ ns.length ≤ 63 ∧ (0 ≤ k ∧ k < 1000) ∧ ∀ p H', Ex H H' → H p = none → Pool H' p → Q (.ref p) H'
theorem ok_law_jar (B : Bl mg) (c_law_cell : Cal P w K mg base 1 "_law_cell" ["_law_cells", "_law_spot"] (spCell K)) (D0 : Df K mg "_law_jar" s_law_jar) : Cal P w K mg base 2 "_law_jar" ["_law_cells", "_law_spot"] (spJar K) := by
  refine D0.cal sc_law_jar (fun _ _ _ _ _ _ us hl => match us, hl with | [_, _], _ => rfl) (fun vs H Q E h => ?_) (fun f cdv A outer s H vs Q E hr h => ?_)
  · obtain ⟨a, k, ns, rfl, _⟩ := h
    rfl
  · obtain ⟨a, k, ns, rfl, hS, hl, hk, q⟩ := h
    refine ⟨_, (pss_cons (ps_set (i := 2) sc_law_jar.nd rfl (.inl rfl) (pe_callB call_abs (by rfl) B.abs_ (by decide +kernel) (pa_cons (pe_cal c_law_cell hr (by decide) rfl (pa_cons (pv 0) (pa_cons (pv 1) pa_nil))) pa_nil)))
      (pss_one (ps_ret (pe_lst (pa_cons (pv 2) (pa_cons (pe_op op_mod (pe_callTy call_int1 (by rfl) B.int_ (by decide +kernel) (pa_cons (pe_op op_add (pv 2) (pe_op op_mul pe_int (pv 1))) pa_nil)) pe_int) (pa_cons pe_int pa_nil))))))), ?_⟩
    walk_at "rd"
    refine ⟨a, k, ns, rfl, hS, hl, hk, fun r H1 e1 => ?_⟩
    exact ⟨r, rfl, .inr ⟨by omega, by omega⟩, by decide, by decide, fun p hp => q p _ (e1.trans (.new hp)) (e1.free hp) ⟨_, _, _, upd_same⟩⟩
abbrev s_law_dig : Stmt := topS 96
theorem sc_law_dig : FnScope ["_law_jar_here", "_law_many", "_law_mixed", "_law_digit"] ["_law_jar_here", "_law_many"] (defScope s_law_dig) := ⟨rfl, rfl, rfl, by decide +kernel, rfl, by decide +kernel, by decide +kernel⟩
def spDig : Sp := fun vs H Q _ => ∃ a, ∃ m : Int, vs = [.ref a, .int m] ∧ Pool H a ∧ 0 < m ∧ m ≤ 1000000000000000000000000000000 ∧ ∀ r H', (0 ≤ r ∧ r < m) → Gr (· = a) H H' → Pool H' a → Q (.int r) H'
theorem ok_law_dig (B : Bl mg) (D0 : Df K mg "_law_dig" s_law_dig) : Cal P w K mg base 1 "_law_dig" ["_law_jar_here", "_law_many"] spDig := by
  refine D0.cal sc_law_dig (fun _ _ _ _ _ _ us hl => match us, hl with | [_, _], _ => rfl) (fun vs H Q E h => ?_) (fun f cdv A outer s H vs Q E hr h => ?_)
  · obtain ⟨a, m, rfl, _⟩ := h
    rfl
  · obtain ⟨a, m, rfl, ⟨d, x, c, hp⟩, h1, h2, q⟩ := h
    refine ⟨_, (pss_cons (ps_asg (pe_op op_add (pe_ix (r := rIxL K) ix_list (pv 0) pe_int (fun _ _ => rfl)) pe_int) (pg_sub (pv 0) pe_int set_list))
      (pss_cons (ps_set (i := 2) sc_law_dig.nd rfl (.inl rfl) (pe_callTy call_int1 (by rfl) B.int_ (by decide +kernel) (pa_cons (pe_ix (r := rIxL K) ix_list (pv 0) pe_int (fun _ _ => rfl)) pa_nil)))
      (pss_cons (ps_asg (pe_op op_mod (pe_callTy call_int1 (by rfl) B.int_ (by decide +kernel) (pa_cons (pe_op op_add (pe_op op_add (pe_op op_mul (pv 2) (pe_op op_add (pe_op op_mod (pe_callTy call_int1 (by rfl) B.int_ (by decide +kernel) (pa_cons (pv 2) pa_nil)) pe_int) pe_int)) (pe_op op_mul (pe_ix (r := rIxL K) ix_list (pv 0) pe_int (fun _ _ => rfl)) pe_int)) pe_int) pa_nil)) pe_int) (pg_sub (pv 0) pe_int set_list))
      (pss_cons (ps_if (pt_cmpR op_gt (pe_ix (r := rIxL K) ix_list (pv 0) pe_int (fun _ _ => rfl)) pe_int (nomark _)) (pss_cons (ps_asg (pe_callB call_divmodW (by rfl) B.divmod_ (by decide +kernel) (pa_cons (pe_ix (r := rIxL K) ix_list (pv 0) pe_int (fun _ _ => rfl)) (pa_cons (pv 1) pa_nil))) (pg_tup rfl (pgs_cons (pg_sub (pv 0) pe_int set_list) (pgs_cons (pg_name (i := 3) sc_law_dig.nd rfl (.inl rfl)) pgs_nil))))
      (pss_one (ps_ret (pv 3)))) pss_nil)
      (pss_one (ps_ret (pe_op op_mod (pe_callTy call_int1 (by rfl) B.int_ (by decide +kernel) (pa_cons (pe_op op_fdiv (pe_ix (r := rIxL K) ix_list (pv 0) pe_int (fun _ _ => rfl)) pe_int) pa_nil)) (pv 1)))))))), ?_⟩
    walk_at "rd"
    refine ⟨a, _, 2, _, rfl, rfl, sqL hp, atI_nat (j := 2) rfl, c, rfl, ?_⟩
    refine ⟨a, _, 2, 2, rfl, rfl, hp, rfl, ?_⟩
    refine ⟨a, _, 1, _, rfl, rfl, sqL upd_same, atI_nat (j := 1) rfl, .inl ⟨x, rfl, ?_⟩⟩
    walk_at "rd"
    have hm1 := Int.emod_nonneg x (show (29989 : Int) ≠ 0 by decide)
    have hm2 := Int.emod_lt_of_pos x (show (0 : Int) < 29989 by decide)
    refine ⟨by decide, .inr ⟨by omega, by omega⟩, a, _, 2, _, rfl, rfl, sqL upd_same, atI_nat (j := 2) rfl, c + 1, rfl, .inr ⟨by omega, by omega⟩, by decide, ?_⟩
    generalize hz : (x * (x % 29989 + 40013) + (c + 1) * 65521 + 7) % 2147483587 = z
    refine ⟨a, _, 1, 1, rfl, rfl, upd_same, rfl, ?_⟩
    refine ⟨a, _, 0, _, rfl, rfl, sqL upd_same, atI_nat (j := 0) rfl, d, rfl, ?_⟩
    rw [upd_upd]
    have G1 : Gr (· = a) H (upd H a (.lst [.int d, .int z, .int (c + 1)])) := Gr.refl.put hp (.inr rfl)
    by_cases hd : 0 < d
    · rw [decide_eq_true hd]
      refine iteT ?_
      refine ⟨a, _, 0, _, rfl, rfl, sqL upd_same, atI_nat (j := 0) rfl, d, m, ⟨rfl, rfl⟩, ⟨h1, noPyJ h1 h2⟩, fun p hf => ?_⟩
      refine ⟨_, sqT upd_same, rfl, _, _, rfl, ?_⟩
      have hpa : a ≠ p := fun e => by
        subst e
        rw [upd_same] at hf
        cases hf
      refine ⟨a, _, 0, 0, rfl, rfl, (by rw [upd_ne hpa]; exact upd_same), rfl, _, _, rfl, rfl, ?_⟩
      refine q _ _ ⟨Int.emod_nonneg _ (by omega), Int.emod_lt_of_pos _ h1⟩ ((G1.alloc hf).put (by rw [upd_ne hpa]; exact upd_same) (.inr rfl)) ⟨_, _, _, upd_same⟩
    · rw [decide_eq_false hd]
      refine iteF ⟨a, _, 1, _, rfl, rfl, sqL upd_same, atI_nat (j := 1) rfl, z, rfl, ⟨by omega, by omega⟩, h1, ?_⟩
      exact q _ _ ⟨Int.emod_nonneg _ (by omega), Int.emod_lt_of_pos _ h1⟩ G1 ⟨_, _, _, upd_same⟩
abbrev s_law_take : Stmt := topS 97
theorem sc_law_take : FnScope ["_law_jar_here", "_law_some"] ["_law_jar_here", "_law_some"] (defScope s_law_take) := ⟨rfl, rfl, rfl, by decide +kernel, rfl, by decide +kernel, by decide +kernel⟩
def spTake (K : PySem.W.Frag) : Sp := fun vs H Q _ => ∃ a l, ∃ xs : List V, vs = [.ref a, .ref l] ∧ Pool H a ∧ SqL K H l xs ∧ l ≠ a ∧ (0 < xs.length ∧ xs.length ≤ 1000) ∧ ∀ v H', v ∈ xs → Gr (· = a) H H' → Pool H' a → Q v H'
theorem ok_law_take (B : Bl mg) (c_law_dig : Cal P w K mg base 1 "_law_dig" ["_law_jar_here", "_law_many"] spDig) (D0 : Df K mg "_law_take" s_law_take) : Cal P w K mg base 2 "_law_take" ["_law_jar_here", "_law_some"] (spTake K) := by
  refine D0.cal sc_law_take (fun _ _ _ _ _ _ us hl => match us, hl with | [_, _], _ => rfl) (fun vs H Q E h => ?_) (fun f cdv A outer s H vs Q E hr h => ?_)
  · obtain ⟨a, l, xs, rfl, _⟩ := h
    rfl
  · obtain ⟨a, l, xs, rfl, hp, hS, hla, hl, q⟩ := h
    refine ⟨_, (pss_one (ps_ret (pe_ix (r := rIxL K) ix_list (pv 1) (pe_cal c_law_dig hr (by decide) rfl (pa_cons (pv 0) (pa_cons (pe_callB (r := rLenQ K) call_len_seq (by rfl) B.len_ PySem.boot_len (pa_cons (pv 1) pa_nil)) pa_nil))) (fun _ _ => rfl)))), ?_⟩
    walk_at "rd"
    refine ⟨l, xs, rfl, .inl hS, a, (xs.length : Int), rfl, hp, by omega, by omega, fun r H1 hr1 g1 p1 => ?_⟩
    obtain ⟨v, hv, ev⟩ := atJ (xs := xs) hr1.1 hr1.2
    exact ⟨l, xs, r, v, rfl, rfl, g1.seqL hS hla, ev, q v H1 hv g1 p1⟩
end
end K11

namespace K11
open PySem PySem.Spec PyProof.Rows L2 Z ZE
local macro_rules | `(tactic| walk_at "rd") => `(tactic| try simp only [cxOf, tSeq, tIfS, tRet, tRetN, tAsg, tDrop, tNext, tBreak, tCont, tNever, tPar, tPar3, tAug, gName, gTup, gCons, gNil, gSub, tVar, tC, tOp, tUn, tCB, tBM, tBM0, tCons, tNil, tTest, tB, tAnd, tOr, tNot, tAndV, tOrV, tNotV, tIf, tChain,
  tTup, tLst, tCall, tMeth, tSl, tPart, tNoPart, tM1, tFmt, tJs_nil, tJs_cons, tCKw, rI0, rI, rU, rEq, rNe, scal_ii, scal_ss, scal_bb, ipI, iStr, iTup, iList, iRng1, sFld, tFld, L2.start, List.getElem?_cons_zero, List.getElem?_cons_succ, List.set_cons_zero, List.set_cons_succ, Option.some.injEq, V.int.injEq, V.bl.injEq, V.str.injEq, V.ref.injEq,
  List.cons.injEq, exists_and_left, exists_eq_left', exists_eq_left, exists_eq_right, exists_eq_right', exists_eq', exists_eq, and_true, true_and, and_self, List.map_cons, List.map_nil, List.length_cons, List.length_nil, List.replicate_succ, List.replicate_zero, List.cons_append, List.nil_append, List.append_nil,
  Nat.add_sub_cancel, Nat.reduceAdd, Nat.reduceSub, if_true, if_false, ite_true, ite_false, Bool.not_true, Bool.not_false, Bool.true_eq_false, Bool.false_eq_true, reduceIte, reduceCtorEq, false_and, exists_false, or_false, false_or, decide_true, decide_false, wipe])

section
variable {P : Program} {w : World} {K : PySem.W.Frag} {mg : Str → Option Value} {base : Heap} {C CN CI fN fI : Addr} {qN qI : Str}
/-- a thing that is no order -/
def NotO (K : PySem.W.Frag) (C : Addr) (H : Hp) (v : V) : Prop := ∃ t, TyX K H v t ∧ PySem.W.kitOne K t (.ref C) = some false
/-- an order, so far as its people go -/
def IsO (K : PySem.W.Frag) (C : Addr) (H : Hp) (v : V) : Prop := ∃ (a dx c : Addr) (m k : V) (t : Str) (px : List V), v = .ref a ∧ H a = some (.ins C dx (fldsO m k (.ref c) t)) ∧ SqT K H c px
theorem OrdAt.isO {H : Hp} {a : Addr} {o : Od} (h : OrdAt K C H a o) : IsO K C H (.ref a) := by
  obtain ⟨dx, a1, b, c, h1, h2⟩ := h
  obtain ⟨px, h3, _⟩ := h2.p
  exact ⟨a, dx, c, _, _, _, px, rfl, h1, h3⟩
theorem IsO.gx {H H' : Hp} {v : V} (h : IsO K C H v) (e : Gx nob H H') : IsO K C H' v := by
  obtain ⟨a, dx, c, m, k, t, px, rfl, h1, h2⟩ := h
  exact ⟨a, dx, c, m, k, t, px, rfl, e.ins h1 id, e.seqT h2⟩
theorem IsO.up {H H' : Hp} {a : Addr} {v : V} (h : IsO K C H v) (hp : Pool H a) (e : Gr (· = a) H H') : IsO K C H' v := by
  obtain ⟨b, dx, c, m, k, t, px, rfl, h1, h2⟩ := h
  refine ⟨b, dx, c, m, k, t, px, rfl, e.at h1 fun z => ?_, e.seqT h2⟩
  obtain ⟨_, _, _, hz⟩ := hp
  rw [← z, h1] at hz
  cases hz
theorem isi_no {H : Hp} {v : V} {Q : VK} (h : NotO K C H v) (q : Q (.bl false) H) : rIsi K [v, .ref C] H Q := by
  obtain ⟨t, h1, h2⟩ := h
  exact ⟨v, .ref C, t, .ref C, false, rfl, .own C, h1, h2, q⟩
theorem isi_yes {H : Hp} {v : V} {Q : VK} (T : OrdC K C) (I : IsC K C) (h : IsO K C H v) (q : Q (.bl true) H) : rIsi K [v, .ref C] H Q := by
  obtain ⟨a, dx, c, m, k, t, px, rfl, h, _⟩ := h
  exact isi_own T.cl I h q
abbrev s_check_number : Stmt := topS 27
theorem sc_check_number : FnScope ["value"] ["value"] (defScope s_check_number) := ⟨rfl, rfl, rfl, by decide +kernel, rfl, by decide +kernel, by decide +kernel⟩
def spCkNum (K : PySem.W.Frag) (CI : Addr) : Sp := fun vs H Q E => ∃ v d, vs = [v] ∧ DT K H v d ∧ (d.isNum = true → Q .non H) ∧ (d.isNum = false → raised1 CI "given" v H E)
theorem ok_check_number (er_InvalidNumber : PySem.ErrG.ErTxt K mg "InvalidNumber" qI CI fI) (c_is_number : Cal P w K mg base 2 "is_number" ["value"] (spIsNum K)) (D0 : Df K mg "check_number" s_check_number) : Cal P w K mg base 3 "check_number" ["value"] (spCkNum K CI) := by
  refine D0.calZ sc_check_number (fun _ _ _ _ _ _ us hl => match us, hl with | [_], _ => rfl) (fun vs H Q E h => ?_) (fun f cdv A outer s H vs Q E hr h => ?_)
  · obtain ⟨v, d, rfl, _⟩ := h
    rfl
  · obtain ⟨v, d, rfl, hd, q1, q2⟩ := h
    refine ⟨_, (pss_one (ps_if (pt_not (pt_val (pe_cal c_is_number hr (by decide) rfl (pa_cons (pv 0) pa_nil)))) (pss_one (ps_raiseErG rfl er_InvalidNumber hr (L2N.takes_of rfl rfl rfl rfl) (by exact (pa_cons (pv 0) pa_nil)) (by rfl))) pss_nil)), ?_⟩
    walk_at "rd"
    refine ⟨v, d, rfl, hd, ?_⟩
    cases hn : d.isNum with
    | true => exact ⟨true, rfl, iteF (q1 hn)⟩
    | false =>
      refine ⟨false, rfl, iteT ?_⟩
      unfold tRaiseErG tMkErG
      walk_at "rd"
      exact fun dd hdd => q2 hn dd _ (.new hdd) upd_same
abbrev s_check_order : Stmt := topS 36
theorem sc_check_order : FnScope ["value"] ["value"] (defScope s_check_order) := ⟨rfl, rfl, rfl, by decide +kernel, rfl, by decide +kernel, by decide +kernel⟩
def spCkO (K : PySem.W.Frag) (C CN : Addr) : Sp := fun vs H Q E => ∃ v, vs = [v] ∧ ((IsO K C H v ∧ Q .non H) ∨ (NotO K C H v ∧ raised1 CN "given" v H E))
theorem ok_check_order (B : Bl mg) (g_Order : mg "Order" = some (.ref C)) (TO : OrdC K C) (IO : IsC K C) (er_NotAnOrder : PySem.ErrG.ErTxt K mg "NotAnOrder" qN CN fN) (D0 : Df K mg "check_order" s_check_order) : Cal P w K mg base 3 "check_order" ["value"] (spCkO K C CN) := by
  refine D0.calZ sc_check_order (fun _ _ _ _ _ _ us hl => match us, hl with | [_], _ => rfl) (fun vs H Q E h => ?_) (fun f cdv A outer s H vs Q E hr h => ?_)
  · obtain ⟨v, rfl, _⟩ := h
    rfl
  · obtain ⟨v, rfl, h⟩ := h
    refine ⟨_, (pss_one (ps_if (pt_not (pt_val (pe_callB (r := rIsi K) call_isi (by rfl) B.isinstance_ (by decide +kernel) (pa_cons (pv 0) (pa_cons (pe_glob (v := .ref C) rfl g_Order rfl) pa_nil))))) (pss_one (ps_raiseErG rfl er_NotAnOrder hr (L2N.takes_of rfl rfl rfl rfl) (by exact (pa_cons (pv 0) pa_nil)) (by rfl))) pss_nil)), ?_⟩
    walk_at "rd"
    rcases h with ⟨h, q⟩ | ⟨h, q⟩
    · exact isi_yes TO IO h ⟨true, rfl, iteF q⟩
    · refine isi_no h ⟨false, rfl, iteT ?_⟩
      unfold tRaiseErG tMkErG
      walk_at "rd"
      exact fun dd hdd => q dd _ (.new hdd) upd_same
end
end K11

namespace K11
open PySem PySem.Spec PyProof.Rows L2 Z ZE
local macro_rules | `(tactic| walk_at "rd") => `(tactic| try simp only [cxOf, tSeq, tIfS, tRet, tRetN, tAsg, tDrop, tNext, tBreak, tCont, tNever, tPar, tPar3, tAug, gName, gTup, gCons, gNil, gSub, tVar, tC, tOp, tUn, tCB, tBM, tBM0, tCons, tNil, tTest, tB, tAnd, tOr, tNot, tAndV, tOrV, tNotV, tIf, tChain,
  tTup, tLst, tCall, tMeth, tSl, tPart, tNoPart, tM1, tFmt, tJs_nil, tJs_cons, tCKw, rI0, rI, rU, rEq, rNe, scal_ii, scal_ss, scal_bb, ipI, iStr, iTup, iList, iRng1, sFld, tFld, L2.start, List.getElem?_cons_zero, List.getElem?_cons_succ, List.set_cons_zero, List.set_cons_succ, Option.some.injEq, V.int.injEq, V.bl.injEq, V.str.injEq, V.ref.injEq,
  List.cons.injEq, exists_and_left, exists_eq_left', exists_eq_left, exists_eq_right, exists_eq_right', exists_eq', exists_eq, and_true, true_and, and_self, List.map_cons, List.map_nil, List.length_cons, List.length_nil, List.replicate_succ, List.replicate_zero, List.cons_append, List.nil_append, List.append_nil,
  Nat.add_sub_cancel, Nat.reduceAdd, Nat.reduceSub, if_true, if_false, ite_true, ite_false, Bool.not_true, Bool.not_false, Bool.true_eq_false, Bool.false_eq_true, reduceIte, reduceCtorEq, false_and, exists_false, or_false, false_or, decide_true, decide_false, wipe])

section
variable {P : Program} {w : World} {K : PySem.W.Frag} {mg : Str → Option Value} {base : Heap} {C CI : Addr}
abbrev s_Order_due : Stmt := inClass (topS 34) 5
theorem sc_Order_due : FnScope ["self", "boxes", "totals", "shares", "all_shares", "place", "name", "share", "refused"] ["self", "boxes"] (defScope s_Order_due) := ⟨rfl, rfl, rfl, by decide +kernel, rfl, by decide +kernel, by decide +kernel⟩
def spDue (K : PySem.W.Frag) (C : Addr) : Sp := fun vs H Q _ => ∃ x, ∃ (o : Od) (n : Int), vs = [.ref x, .int n] ∧ OrdAt K C H x o ∧ 0 ≤ n ∧ ∀ v H', Ex H H' → DT K H' v (dueD o n) → Q v H'
theorem ok_due (B : Bl mg) (c_check_number : Cal P w K mg base 3 "check_number" ["value"] (spCkNum K CI)) (c_box_worth : Cal P w K mg base 1 "_box_worth" ["kinds", "place"] (spWorth K)) (c_parts : Cal P w K mg base 2 "_parts" ["totals", "share", "all_shares"] (spParts K))
    (T : OrdC K C) (D0 : Dm K C "due" "Order.due" s_Order_due) : Mtd P w K mg base 4 C "due" ["self", "boxes"] (spDue K C) := by
  refine D0.mtd sc_Order_due (fun _ _ _ _ _ _ us hl => match us, hl with | [_, _], _ => rfl) (fun vs H Q E h => ?_) (fun f cdv A outer s H vs Q E hr h => ?_)
  · obtain ⟨x, o, n, rfl, _⟩ := h
    rfl
  · obtain ⟨x, o, n, rfl, ⟨dx, a, b, c, hx, hp⟩, hn, q⟩ := h
    refine ⟨_, (pss_cons (ps_expr (pe_cal c_check_number hr (by decide) rfl (pa_cons (pv 1) pa_nil)))
      (pss_cons (ps_set (i := 2) sc_Order_due.nd rfl (.inr rfl) (pe_lc (own := [("place", 5)]) (g := gName 5) rfl sc_Order_due.nd (pi_range1 rfl B.range_ (pa_cons (pe_callB (r := rLenQ K) call_len_seq (by rfl) B.len_ PySem.boot_len (pa_cons (pe_fld (pv 0) rfl) pa_nil)) pa_nil)) (blkOk_by (N := ["self", "boxes", "totals", "shares", "all_shares", "place", "name", "share", "refused"]) (sc := defScope s_Order_due) (by decide +kernel)) (fun _ _ _ _ _ => (pg_name (i := 5) sc_Order_due.nd rfl (.inl rfl))) (fun _ _ _ _ _ => pts_nil) (fun _ _ _ _ _ => (pe_op op_mul (pv 1) (pe_cal c_box_worth hr (by decide) rfl (pa_cons (pe_fldK (K := K) (by rfl) (pv 0) (by rfl)) (pa_cons (pv 5) pa_nil)))))))
      (pss_cons (ps_setLc (i := 3) (own := [("name", 6), ("share", 7), ("refused", 8)]) (g := gTup K 3 (gCons (gName 6) (gCons (gName 7) (gCons (gName 8) gNil)))) rfl sc_Order_due.nd rfl rfl (sw_true rfl rfl rfl (by decide +kernel)) (pi_tup (pe_fld (pv 0) rfl)) (blkOk_by (N := ["self", "boxes", "totals", "shares", "all_shares", "place", "name", "share", "refused"]) (sc := defScope s_Order_due) (by decide +kernel)) (fun _ _ _ _ _ => (by exact (pg_tup rfl (pgs_cons (pg_name (i := 6) sc_Order_due.nd rfl (.inl rfl)) (pgs_cons (pg_name (i := 7) sc_Order_due.nd rfl (.inl rfl)) (pgs_cons (pg_name (i := 8) sc_Order_due.nd rfl (.inl rfl)) pgs_nil)))))) (fun _ _ _ _ _ => pts_nil) (fun _ _ _ _ _ => (pv 7)))
      (pss_cons (ps_set (i := 4) sc_Order_due.nd rfl (.inr rfl) (pe_callB (r := rSum K) (cr_sum rfl) (by rfl) B.sum_ (by decide +kernel) (pa_cons (pv 3) pa_nil)))
      (pss_one (ps_ret (pe_callTy (r := rTupOf K) call_tuple_of (by rfl) B.tuple_ (by decide +kernel) (pa_cons (pe_lc (own := [("share", 7)]) (g := gName 7) rfl sc_Order_due.nd (pi_list (pv 3)) (blkOk_by (N := ["self", "boxes", "totals", "shares", "all_shares", "place", "name", "share", "refused"]) (sc := defScope s_Order_due) (by decide +kernel)) (fun _ _ _ _ _ => (pg_name (i := 7) sc_Order_due.nd rfl (.inl rfl))) (fun _ _ _ _ _ => pts_nil) (fun _ _ _ _ _ => (pe_cal c_parts hr (by decide) rfl (pa_cons (pv 2) (pa_cons (pv 7) (pa_cons (pv 4) pa_nil)))))) pa_nil)))))))), ?_⟩
    walk_at "rd"
    have hnn : D.isNum (.int n) = true := decide_eq_true hn
    refine ⟨.int n, .int n, rfl, .int n, fun _ => ?_, fun z => by rw [hnn] at z; cases z⟩
    have ho := hp.ok
    walk_at "rd"
    have hm1 := ho.m1
    have hp1 := ho.p1
    have hk1 := ho.k1
    refine lcRf o.ms.length (fun R h => ⟨_, rfl, x, C, dx, _, _, rfl, hx, T.cl, T.nm, fl_m _ _ _ _, a, _, rfl, .inr hp.m, by rw [List.length_map]; exact h⟩) (by omega) (((List.range o.ms.length).map fun j => n * worth o.ks j).map V.int)
      (by rw [List.length_map, List.length_map, List.length_range]) ?_ ?_
    · intro i z H' Q' hz e q'
      rw [List.map_map, List.getElem?_map] at hz
      have hi : i < o.ms.length := by
        cases e1 : (List.range o.ms.length)[i]? with
        | none =>
          rw [e1] at hz
          cases hz
        | some y =>
          have h1 := (List.getElem?_eq_some_iff.mp e1).1
          rwa [List.length_range] at h1
      rw [List.getElem?_range hi] at hz
      cases hz
      have hpe := hp.mono e.any
      obtain ⟨kx, k1, k2⟩ := hpe.k
      walk_at "rd"
      refine ⟨C, dx, _, e.get hx, T.cl, T.nk, _, fl_k _ _ _ _, ?_⟩
      refine ⟨b, kx, o.ks, o.ms.length, i, rfl, k1, k2, ho.k2, ho.k1.2, hi, fun H3 e3 => ?_⟩
      have hb := worth_bound ho.k2 ho.k1.2 i
      walk_at "rd"
      exact ⟨.inr ⟨by omega, by omega⟩, q' H3 e3⟩
    · intro D1 H1 hD1 e1 h1
      have hp1' := hp.mono e1.any
      obtain ⟨px, p1, p2⟩ := hp1'.p
      have hpl := p2.lenM
      refine lcTf (a := c) (xs := px) (fun R h => ⟨_, rfl, x, C, dx, _, _, rfl, e1.get hx, T.cl, T.np, fl_p _ _ _ _, h⟩) p1 (by omega) ((o.ps.map Pn.s).map V.int) (by rw [List.length_map, List.length_map, hpl]) ?_ ?_
      · intro i y z H' Q' hy hz e q'
        obtain ⟨p, h2, h3⟩ := p2.getM hy
        rw [List.map_map, List.getElem?_map, h2] at hz
        cases hz
        obtain ⟨p', b', rfl, h4, h5⟩ := (h3.mono e.any).pn
        walk_at "rd"
        refine ⟨_, h4, rfl, _, _, rfl, _, _, rfl, _, _, rfl, rfl, ?_⟩
        walk_at "rd"
        exact q' H' .refl
      · intro D2 H2 hD2 e2 h2
        refine ⟨D2, o.ps.map Pn.s, rfl, sqL h2, ?_⟩
        have hsb := shares_bound (fun p hp => (ho.p3 p hp).s) ⟨by omega, hp1.2⟩
        have hne : D1 ≠ D2 := fun z => by
          subst z
          rw [h1] at hD2
          cases hD2
        refine lcL0 (a := D2) (xs := (o.ps.map Pn.s).map V.int) (fun R h => ⟨_, rfl, h⟩) (sqL h2) (by rw [List.length_map, List.length_map]; omega)
          (fun i y H' => ∃ p, o.ps[i]? = some p ∧ DT K H' y (.tup ((dueP o n p).map pairD))) (fun i y H1 H2 ⟨t, h1, h2⟩ e => ⟨t, h1, h2.mono e⟩) ?_ ?_
        · intro i y H' Q' hy e q'
          rw [List.map_map, List.getElem?_map] at hy
          cases e3 : o.ps[i]? with
          | none =>
            rw [e3] at hy
            cases hy
          | some p =>
            rw [e3] at hy
            cases hy
            have hps := (ho.p3 p (List.mem_of_getElem? e3)).s
            walk_at "rd"
            refine ⟨D1, _, p.s, shares o.ps, rfl, e.get (e2.get h1), by rw [List.length_map, List.length_range]; omega, hps, ⟨by omega, by omega⟩, fun v H3 e4 h4 => q' v H3 e4 ⟨p, e3, ?_⟩⟩
            rw [List.map_map] at h4
            have eq : (dueP o n p).map Z.pairD = (List.range o.ms.length).map ((fun t => Z.pairD (lowest (t * p.s) (shares o.ps))) ∘ fun j => n * worth o.ks j) := by
              rw [dueP, List.map_map]
              rfl
            rw [eq]
            exact h4
        · intro D3 ys H3 hD3 e3 h3 h4 h5
          refine ⟨D3, ys, rfl, .inl ⟨sqL h3, fun T' hT => ?_⟩⟩
          have e4 : Ex H (upd H3 T' (.tup ys)) := ((e1.trans e2).trans e3).trans (.new hT)
          refine q _ _ e4 (.tup (sqT upd_same) (DTs.of (by rw [h4, List.length_map, List.length_map, List.length_map]) fun i y hy => ?_))
          obtain ⟨p, h6, h7⟩ := h5 i y hy
          exact ⟨_, by rw [List.getElem?_map, h6]; rfl, h7.mono (.new hT)⟩
end
end K11

namespace K11
open PySem PySem.Spec PyProof.Rows L2 Z ZE
local macro_rules | `(tactic| walk_at "rd") => `(tactic| try simp only [cxOf, tSeq, tIfS, tRet, tRetN, tAsg, tDrop, tNext, tBreak, tCont, tNever, tPar, tPar3, tAug, gName, gTup, gCons, gNil, gSub, tVar, tC, tOp, tUn, tCB, tBM, tBM0, tCons, tNil, tTest, tB, tAnd, tOr, tNot, tAndV, tOrV, tNotV, tIf, tChain,
  tTup, tLst, tCall, tMeth, tSl, tPart, tNoPart, tM1, tFmt, tJs_nil, tJs_cons, tCKw, rI0, rI, rU, rEq, rNe, scal_ii, scal_ss, scal_bb, ipI, iStr, iTup, iList, iRng1, sFld, tFld, L2.start, List.getElem?_cons_zero, List.getElem?_cons_succ, List.set_cons_zero, List.set_cons_succ, Option.some.injEq, V.int.injEq, V.bl.injEq, V.str.injEq, V.ref.injEq,
  List.cons.injEq, exists_and_left, exists_eq_left', exists_eq_left, exists_eq_right, exists_eq_right', exists_eq', exists_eq, and_true, true_and, and_self, List.map_cons, List.map_nil, List.length_cons, List.length_nil, List.replicate_succ, List.replicate_zero, List.cons_append, List.nil_append, List.append_nil,
  Nat.add_sub_cancel, Nat.reduceAdd, Nat.reduceSub, if_true, if_false, ite_true, ite_false, Bool.not_true, Bool.not_false, Bool.true_eq_false, Bool.false_eq_true, reduceIte, reduceCtorEq, false_and, exists_false, or_false, false_or, decide_true, decide_false, wipe])

section
variable {P : Program} {w : World} {K : PySem.W.Frag} {mg : Str → Option Value} {base : Heap} {C : Addr}
section
variable {H : Hp} {x : Addr} {o : Od} {F : VK} {σ : L2.St} {i : Nat}
theorem fldO {dx : Addr} {fs : List (Str × V)} {f : Str} {v : V} (hi : σ[i]? = some (some (.ref x))) (h : H x = some (.ins C dx fs)) (hf : fs.lookup f = some v) (q : F v H) : tProp C (getSp C f) [] E0 (tVar i) σ H F := by
  unfold tProp
  exact ⟨_, hi, x, dx, _, rfl, h, x, dx, _, v, rfl, h, hf, q⟩
theorem dtT {v : V} {l : List D} (h : DT K H v (.tup l)) : ∃ a xs, v = .ref a ∧ SqT K H a xs ∧ DTs K H xs l := by
  cases h with
  | tup h1 h2 => exact ⟨_, _, rfl, h1, h2⟩
theorem ppl (hi : σ[i]? = some (some (.ref x))) (O : OrdAt K C H x o) (q : ∀ c px, SqT K H c px → DTs K H px (o.ps.map Pn.d) → F (.ref c) H) : tProp C (getSp C "_people") [] E0 (tVar i) σ H F := by
  obtain ⟨dx, a, b, c, hx, hp⟩ := O
  obtain ⟨px, p1, p2⟩ := hp.p
  exact fldO hi hx (fl_p _ _ _ _) (q c px p1 p2)
theorem knd (hi : σ[i]? = some (some (.ref x))) (O : OrdAt K C H x o) (q : ∀ c kx, SqT K H c kx → DTs K H kx (o.ks.map Kd.d) → F (.ref c) H) : tProp C (getSp C "_kinds") [] E0 (tVar i) σ H F := by
  obtain ⟨dx, a, b, c, hx, hp⟩ := O
  obtain ⟨kx, k1, k2⟩ := hp.k
  exact fldO hi hx (fl_k _ _ _ _) (q b kx k1 k2)
theorem msr (hi : σ[i]? = some (some (.ref x))) (O : OrdAt K C H x o) (q : ∀ c, SqT K H c (o.ms.map V.str) → F (.ref c) H) : tProp C (getSp C "_measures") [] E0 (tVar i) σ H F := by
  obtain ⟨dx, a, b, c, hx, hp⟩ := O
  exact fldO hi hx (fl_m _ _ _ _) (q a hp.m)
theorem OrdAt.ok (O : OrdAt K C H x o) : o.ok := by
  obtain ⟨dx, a, b, c, hx, hp⟩ := O
  exact hp.ok
theorem OrdAt.up {H' : Hp} {m : Addr → Prop} (O : OrdAt K C H x o) (e : Gr m H H') (hm : ¬ m x) : OrdAt K C H' x o := by
  obtain ⟨dx, a, b, c, h1, h2⟩ := O
  exact ⟨dx, a, b, c, e.at h1 hm, h2.mono e.any⟩
end
theorem dtsSnoc {H : Hp} {y : V} {d : D} : ∀ {xs : List V} {ds : List D}, DTs K H xs ds → DT K H y d → DTs K H (xs ++ [y]) (ds ++ [d])
  | _, _, .nil, h => .cons h .nil
  | _, _, .cons h1 h2, h => .cons h1 (dtsSnoc h2 h)
theorem dtsInts {H : Hp} : ∀ l : List Int, DTs K H (l.map V.int) (l.map D.int)
  | [] => .nil
  | i :: l => .cons (.int i) (dtsInts l)
theorem dtsIntsInv {H : Hp} : ∀ {xs : List V} {l : List Int}, DTs K H xs (l.map D.int) → xs = l.map V.int
  | _, [], h => by
    cases h
    rfl
  | _, i :: l, h => by
    cases h with
    | cons h1 h2 =>
      cases h1
      rw [dtsIntsInv h2]
      rfl
theorem all_ints {ys : List V} {ds : List Int} (h1 : ys.length = ds.length) (h2 : ∀ (i : Nat) (y : V) (d : Int), ys[i]? = some y → ds[i]? = some d → y = .int d) : ys = ds.map V.int := by
  refine List.ext_getElem? fun i => ?_
  rw [List.getElem?_map]
  by_cases hi : i < ys.length
  · rw [List.getElem?_eq_getElem hi, List.getElem?_eq_getElem (show i < ds.length by omega)]
    exact congrArg some (h2 i _ _ (List.getElem?_eq_getElem hi) (List.getElem?_eq_getElem _))
  · rw [List.getElem?_eq_none (by omega), List.getElem?_eq_none (by omega)]
    rfl
theorem flat_le {α β : Type} {n : Nat} {f : α → List β} : ∀ l : List α, (∀ x ∈ l, (f x).length ≤ n) → (l.map f).flatten.length ≤ l.length * n
  | [], _ => by simp
  | x :: l, h => by
    rw [List.map_cons, List.flatten_cons, List.length_append, List.length_cons, Nat.succ_mul]
    have h1 := flat_le l fun y hy => h y (List.mem_cons_of_mem _ hy)
    have h2 := h x (List.mem_cons_self ..)
    omega
theorem flat_len {α β : Type} {n : Nat} {f : α → List β} : ∀ l : List α, (∀ x ∈ l, (f x).length = n) → (l.map f).flatten.length = l.length * n
  | [], _ => by simp
  | x :: l, h => by
    rw [List.map_cons, List.flatten_cons, List.length_append, flat_len l fun y hy => h y (List.mem_cons_of_mem _ hy), h x (List.mem_cons_self ..), List.length_cons, Nat.succ_mul]
    omega
abbrev s_all_shares : Stmt := topS 37
theorem sc_all_shares : FnScope ["order", "name", "share", "refused"] ["order"] (defScope s_all_shares) := ⟨rfl, rfl, rfl, by decide +kernel, rfl, by decide +kernel, by decide +kernel⟩
def spAllSh (K : PySem.W.Frag) (C : Addr) : Sp := fun vs H Q _ => ∃ x o, vs = [.ref x] ∧ OrdAt K C H x o ∧ ∀ H', Ex H H' → Q (.int o.P) H'
theorem ok_all_shares (B : Bl mg) (p_people : Prp P w K mg base 1 C "people" "_people") (D0 : Df K mg "all_shares" s_all_shares) : Cal P w K mg base 3 "all_shares" ["order"] (spAllSh K C) := by
  refine D0.cal sc_all_shares (fun _ _ _ _ _ _ us hl => match us, hl with | [_], _ => rfl) (fun vs H Q E h => ?_) (fun f cdv A outer s H vs Q E hr h => ?_)
  · obtain ⟨x, o, rfl, _⟩ := h
    rfl
  · obtain ⟨x, o, rfl, O, q⟩ := h
    refine ⟨_, (pss_one (ps_ret (pe_callB (r := rSum K) (cr_sum rfl) (by rfl) B.sum_ (by decide +kernel) (pa_cons (pe_lc (own := [("name", 1), ("share", 2), ("refused", 3)]) (g := gTup K 3 (gCons (gName 1) (gCons (gName 2) (gCons (gName 3) gNil)))) rfl sc_all_shares.nd (pi_tup (pe_prp p_people hr (by decide) (pv 0))) (blkOk_by (N := ["order", "name", "share", "refused"]) (sc := defScope s_all_shares) (by decide +kernel)) (fun _ _ _ _ _ => (by exact (pg_tup rfl (pgs_cons (pg_name (i := 1) sc_all_shares.nd rfl (.inl rfl)) (pgs_cons (pg_name (i := 2) sc_all_shares.nd rfl (.inl rfl)) (pgs_cons (pg_name (i := 3) sc_all_shares.nd rfl (.inl rfl)) pgs_nil)))))) (fun _ _ _ _ _ => pts_nil) (fun _ _ _ _ _ => (pv 2))) pa_nil)))), ?_⟩
    walk_at "rd"
    have ho := O.ok
    have hp1 := ho.p1
    refine lcTd (fun c H1 => H1 = H ∧ ∃ px, SqT K H c px ∧ DTs K H px (o.ps.map Pn.d)) (fun R h => ppl rfl O fun c px p1 p2 => h c H ⟨rfl, px, p1, p2⟩) ?_
    rintro c _ ⟨rfl, px, p1, p2⟩
    have hpl := p2.lenM
    refine lcTf (a := c) (xs := px) (fun R h => h) p1 (by omega) ((o.ps.map Pn.s).map V.int) (by rw [List.length_map, List.length_map, hpl]) ?_ ?_
    · intro i y z H' Q' hy hz e q'
      obtain ⟨p, h2, h3⟩ := p2.getM hy
      rw [List.map_map, List.getElem?_map, h2] at hz
      cases hz
      obtain ⟨p', b', rfl, h4, h5⟩ := (h3.mono e.any).pn
      walk_at "rd"
      refine ⟨_, h4, rfl, _, _, rfl, _, _, rfl, _, _, rfl, rfl, ?_⟩
      walk_at "rd"
      exact q' H' .refl
    · intro D H' hD e h
      exact ⟨D, o.ps.map Pn.s, rfl, sqL h, q H' e⟩
theorem dueF_len {o : Od} (ho : o.ok) (n : Int) : (dueF o n).length ≤ 6 := by
  have h1 := ho.m1
  have h2 := ho.p1
  have key : ∀ l : List Pn, (l.map (dueP o n)).flatten.length = l.length * o.ms.length := fun l => by
    induction l with
    | nil => simp
    | cons p l ih =>
      rw [List.map_cons, List.flatten_cons, List.length_append, ih, List.length_cons, Nat.succ_mul, dueP, List.length_map, List.length_range]
      omega
  have h3 := key o.ps
  have h4 : o.ps.length * o.ms.length ≤ 3 * 2 := Nat.mul_le_mul h2.2 h1.2
  unfold dueF
  omega
abbrev s_whole_due : Stmt := topS 55
theorem sc_whole_due : FnScope ["order", "boxes", "parts", "row", "part", "top", "bottom"] ["order", "boxes"] (defScope s_whole_due) := ⟨rfl, rfl, rfl, by decide +kernel, rfl, by decide +kernel, by decide +kernel⟩
def spWhole (K : PySem.W.Frag) (C : Addr) : Sp := fun vs H Q _ => ∃ x, ∃ (o : Od) (n : Int), vs = [.ref x, .int n] ∧ OrdAt K C H x o ∧ 0 ≤ n ∧ (∀ H', Ex H H' → wholeM o n = none → Q .non H') ∧ ∀ a l H', Ex H H' → wholeM o n = some l → SqT K H' a (l.map V.int) → Q (.ref a) H'
theorem ok_whole_due (B : Bl mg) (d_Order_due : Mtd P w K mg base 4 C "due" ["self", "boxes"] (spDue K C)) (D0 : Df K mg "whole_due" s_whole_due) : Cal P w K mg base 5 "whole_due" ["order", "boxes"] (spWhole K C) := by
  refine D0.cal sc_whole_due (fun _ _ _ _ _ _ us hl => match us, hl with | [_, _], _ => rfl) (fun vs H Q E h => ?_) (fun f cdv A outer s H vs Q E hr h => ?_)
  · obtain ⟨x, o, n, rfl, _⟩ := h
    rfl
  · obtain ⟨x, o, n, rfl, O, hn, q1, q2⟩ := h
    refine ⟨_, (pss_cons (ps_setLc2 (i := 2) (own := [("row", 3), ("part", 4)]) (vs1 := [4]) (g := gName 3) (g1 := gName 4) rfl sc_whole_due.nd rfl rfl (sw_true rfl rfl rfl (by decide +kernel)) (pi_tup (pe_mth d_Order_due hr (by decide) (pv 0) (pa_cons (pv 1) pa_nil))) (blkOk_by (N := ["order", "boxes", "parts", "row", "part", "top", "bottom"]) (sc := defScope s_whole_due) (by decide +kernel)) (by decide) (fun _ _ _ _ _ => (pg_name (i := 3) sc_whole_due.nd rfl (.inl rfl))) (fun _ _ _ _ _ => pts_nil) (fun _ _ _ _ _ => (pi_tupK (K := K) (by rfl) (pv 3))) (fun _ _ _ _ _ => (pg_name (i := 4) sc_whole_due.nd rfl (.inl rfl))) (fun _ _ _ _ _ => pts_nil) (fun _ _ _ _ _ => (pv 4)))
      (pss_cons (ps_if (pt_val (pe_callB (r := rAny K) (cr_any rfl) (by rfl) B.any_ (by decide +kernel) (pa_cons (pe_lc (own := [("top", 5), ("bottom", 6)]) (g := gTup K 2 (gCons (gName 5) (gCons (gName 6) gNil))) rfl sc_whole_due.nd (pi_list (pv 2)) (blkOk_by (N := ["order", "boxes", "parts", "row", "part", "top", "bottom"]) (sc := defScope s_whole_due) (by decide +kernel)) (fun _ _ _ _ _ => (by exact (pg_tup rfl (pgs_cons (pg_name (i := 5) sc_whole_due.nd rfl (.inl rfl)) (pgs_cons (pg_name (i := 6) sc_whole_due.nd rfl (.inl rfl)) pgs_nil))))) (fun _ _ _ _ _ => pts_nil) (fun _ _ _ _ _ => (pe_cmpR op_ne (pv 6) pe_int (nomark _)))) pa_nil))) (pss_one (ps_ret pe_non)) pss_nil)
      (pss_one (ps_ret (pe_callTy (r := rTupOf K) call_tuple_of (by rfl) B.tuple_ (by decide +kernel) (pa_cons (pe_lc (own := [("top", 5), ("bottom", 6)]) (g := gTup K 2 (gCons (gName 5) (gCons (gName 6) gNil))) rfl sc_whole_due.nd (pi_list (pv 2)) (blkOk_by (N := ["order", "boxes", "parts", "row", "part", "top", "bottom"]) (sc := defScope s_whole_due) (by decide +kernel)) (fun _ _ _ _ _ => (by exact (pg_tup rfl (pgs_cons (pg_name (i := 5) sc_whole_due.nd rfl (.inl rfl)) (pgs_cons (pg_name (i := 6) sc_whole_due.nd rfl (.inl rfl)) pgs_nil))))) (fun _ _ _ _ _ => pts_nil) (fun _ _ _ _ _ => (pv 5))) pa_nil)))))), ?_⟩
    walk_at "rd"
    have ho := O.ok
    refine lc2d (fun J H1 => ∃ a xs, J = Itt K a ∧ Ex H H1 ∧ SqT K H1 a xs ∧ DTs K H1 xs (o.ps.map fun p => D.tup ((dueP o n p).map Z.pairD))) (fun R h => ?_) ?_
    · have key : iTup K (tMeth C "due" (spDue K C) [] E0 (tVar 0) (tCons (tVar 1) tNil)) [some (.ref x), some (.int n), none, none, none, none, none] H R := by
        obtain ⟨dx, a, b, c, hx, hp⟩ := id O
        unfold iTup tMeth
        walk_at "rd"
        refine ⟨dx, _, hx, rfl, x, o, n, rfl, O, hn, fun v H1 e1 h1 => ?_⟩
        obtain ⟨c, xs, rfl, S, s⟩ := dtT h1
        exact ⟨c, rfl, ⟨xs, S⟩, h _ _ ⟨c, xs, rfl, e1, S, s⟩⟩
      exact key
    · rintro J H1 ⟨a, xs, rfl, e1, hS, hs⟩
      have hm1 := ho.m1
      have hp1 := ho.p1
      have hxl := hs.lenM
      have hfl : (o.ps.map fun p => (dueP o n p).map Z.pairD).flatten = (dueF o n).map Z.pairD := by
        rw [dueF, List.map_flatten, List.map_map]
        rfl
      have hdl : (dueF o n).length ≤ 6 := dueF_len ho n
      refine lc2R (α := D) (fun d y H => DT K H y d) (fun d y H H' h e => h.mono e) (o.ps.map fun p => (dueP o n p).map Z.pairD) (by rw [List.length_map, ← hxl]; exact walk_tup (K := K) (a := a) (xs := xs)) (fun R h => h) (fun H' e => e.seqT hS) (by rw [hfl, List.length_map]; omega) ?_ ?_
      · rintro D i y H' H'' ds hD hds e _ ⟨rfl, hy⟩ F hF
        obtain ⟨p, hp, hd⟩ := hs.getM hy
        rw [List.getElem?_map, hp] at hds
        cases hds
        obtain ⟨b, ys, rfl, S, s⟩ := dtT (hd.mono e.any)
        have hyl := s.lenM
        walk_at "rd"
        refine hF _ _ rfl .refl fun R h => ⟨_, rfl, b, rfl, ⟨_, S⟩, ?_⟩
        refine h _ _ _ _ (by rw [List.length_map, ← hyl]; exact walk_tup (K := K) (a := b) (xs := ys)) .refl (fun H5 g5 => g5.seqT S) ?_
        rintro j z H5 H6 Q' d hd' g5 ⟨rfl, hz⟩ k
        obtain ⟨q, hq, hqd⟩ := s.getM hz
        rw [List.getElem?_map, hq] at hd'
        cases hd'
        walk_at "rd"
        exact k z _ .refl (hqd.mono g5.any)
      · intro L ys H2 hL e2 f2 l2 r2
        rw [hfl] at l2 r2
        have hys : DTs K H2 ys ((dueF o n).map Z.pairD) := DTs.of l2 fun i y hy => by
          have hi : i < ((dueF o n).map Z.pairD).length := by
            rw [← l2]
            exact (List.getElem?_eq_some_iff.mp hy).1
          exact ⟨_, List.getElem?_eq_getElem hi, r2 i y _ hy (List.getElem?_eq_getElem hi)⟩
        have hyl := hys.lenM
        have E2 := e1.trans e2
        refine lcLf (a := L) (xs := ys) (fun R h => ⟨_, rfl, h⟩) (sqL f2) (by omega) ((dueF o n).map fun q => V.bl (!decide (q.2 = 1))) (by rw [List.length_map, hyl]) ?_ ?_
        · intro i y z H' Q' hy hz e q'
          obtain ⟨q, hq, hqd⟩ := hys.getM hy
          rw [List.getElem?_map, hq] at hz
          cases hz
          obtain ⟨b, rfl, S⟩ := (hqd.mono e.any).pair
          walk_at "rd"
          refine ⟨_, S, rfl, _, _, rfl, _, _, rfl, rfl, ?_⟩
          walk_at "rd"
          exact q' H' .refl
        · intro D1 H3 hD1 e3 f3
          have ha : ((dueF o n).map fun q => !decide (q.2 = 1)).any id = !(dueF o n).all fun q => decide (q.2 = 1) := by
            rw [List.any_map, List.not_all_eq_any_not]
            rfl
          refine ⟨D1, (dueF o n).map fun q => !decide (q.2 = 1), rfl, sqL (by rw [f3, List.map_map]; rfl), _, rfl, ?_⟩
          rw [ha]
          cases hall : (dueF o n).all fun q => decide (q.2 = 1) with
          | false =>
            refine iteT (q1 H3 (E2.trans e3) ?_)
            unfold wholeM
            rw [hall]
            rfl
          | true =>
            refine iteF ?_
            refine lcLf (a := L) (xs := ys) (fun R h => ⟨_, rfl, h⟩) (sqL (e3.get f2)) (by omega) ((dueF o n).map fun q => V.int q.1) (by rw [List.length_map, hyl]) ?_ ?_
            · intro i y z H' Q' hy hz e q'
              obtain ⟨q, hq, hqd⟩ := hys.getM hy
              rw [List.getElem?_map, hq] at hz
              cases hz
              obtain ⟨b, rfl, S⟩ := (hqd.mono (e3.trans e).any).pair
              walk_at "rd"
              refine ⟨_, S, rfl, _, _, rfl, _, _, rfl, rfl, ?_⟩
              walk_at "rd"
              exact q' H' .refl
            · intro D2 H4 hD2 e4 f4
              refine ⟨D2, _, rfl, .inl ⟨sqL f4, fun T' hT => ?_⟩⟩
              refine q2 T' ((dueF o n).map (·.1)) _ ((E2.trans (e3.trans e4)).trans (.new hT)) ?_ (sqT ?_)
              · unfold wholeM
                rw [hall]
                rfl
              · rw [upd_same, List.map_map]
                rfl
theorem drop_two (L : List Int) (h : 2 ≤ L.length) : L.drop (L.length - 2) = [L.getD (L.length - 2) 0, L.getD (L.length - 1) 0] := by
  have e1 : L.length - 2 + 1 = L.length - 1 := by omega
  have g : ∀ i (hi : i < L.length), L.getD i 0 = L[i] := fun i hi => by rw [List.getD_eq_getElem?_getD, List.getElem?_eq_getElem hi]; rfl
  rw [List.drop_eq_getElem_cons (by omega), e1, List.drop_eq_getElem_cons (by omega), List.drop_of_length_le (by omega), g _ (by omega), g _ (by omega)]
theorem cut_back {xs : List V} {m : Nat} (hm1 : 1 ≤ m) (hm : m ≤ xs.length) : cutV xs none (some (-(m : Int))) = xs.take (xs.length - m) := by
  unfold cutV
  have h0 : HT.sIx xs.length 0 none = 0 := rfl
  have h1 : HT.sIx xs.length xs.length (some (-(m : Int))) = xs.length - m := by
    show (if (-(m : Int)) < 0 then (-(m : Int) + (xs.length : Int)).toNat else min (-(m : Int)).toNat xs.length) = xs.length - m
    split <;> omega
  rw [h0, h1, List.drop_zero, Nat.sub_zero]
/-- the slice without the last m, of a list or a tuple -/
theorem sl_back {H : Hp} {a : Addr} {xs : List V} {n m : Nat} {F : VK} (hS : SqT K H a xs ∨ SqL K H a xs) (hn : xs.length = n) (hm : 1 ≤ m) (hmn : m ≤ n) (q : ∀ b H', Ex H H' → SqT K H' b (cutV xs none (some (-(m : Int)))) ∨ SqL K H' b (cutV xs none (some (-(m : Int)))) → F (.ref b) H') : rSlX K (.ref a) none (some (-(m : Int))) H F := by
  refine hS.elim (fun hT => .inr ⟨a, _, rfl, hT, fun h0 => ?_, fun _ p2 hp2 => q p2 _ (.new hp2) (.inl (sqT upd_same))⟩) fun hL => .inl ⟨a, _, rfl, hL, fun p2 hp2 => q p2 _ (.new hp2) (.inr (sqL upd_same))⟩
  have h1 : HT.sIx xs.length xs.length (some (-(m : Int))) = xs.length - m := by
    show (if (-(m : Int)) < 0 then (-(m : Int) + (xs.length : Int)).toNat else min (-(m : Int)).toNat xs.length) = xs.length - m
    split <;> omega
  have h2 := h0.2
  rw [h1] at h2
  omega
/-- the last two of a tuple -/
theorem sl_two {H : Hp} {a : Addr} {xs : List V} {F : VK} (hT : SqT K H a xs) (h2 : 2 ≤ xs.length) (q : ∀ b H', Ex H H' → SqT K H' b (xs.drop (xs.length - 2)) → F (.ref b) H') : rSlA K (.ref a) (some (-2)) none H F := by
  have h0 : HT.sIx xs.length 0 (some (-2)) = xs.length - 2 := by
    show (if (-2 : Int) < 0 then (-2 + (xs.length : Int)).toNat else min (-2 : Int).toNat xs.length) = xs.length - 2
    rw [if_pos (by decide)]
    omega
  have hc : cutV xs (some (-2)) none = xs.drop (xs.length - 2) := by
    unfold cutV
    rw [h0, HT.sIx_none, List.take_of_length_le (by rw [List.length_drop]; omega)]
  refine ⟨a, xs, rfl, hT, fun z => q a H .refl ?_, fun _ p hp => q p _ (.new hp) (sqT ?_)⟩
  · have z1 := z.1
    rw [h0] at z1
    rw [z1, List.drop_zero]
    exact hT
  · rw [upd_same, hc]
abbrev s_point_of : Stmt := topS 56
theorem sc_point_of : FnScope ["flat", "measures", "numbers"] ["flat", "measures"] (defScope s_point_of) := ⟨rfl, rfl, rfl, by decide +kernel, rfl, by decide +kernel, by decide +kernel⟩
def spPtOf (K : PySem.W.Frag) : Sp := fun vs H Q _ => ∃ (a : Addr) (l : List Int) (m : Nat), vs = [.ref a, .int (m : Int)] ∧ (SqT K H a (l.map V.int) ∨ SqL K H a (l.map V.int)) ∧ 1 ≤ m ∧ m < l.length ∧ l.length ≤ 10 ∧ ∀ p H', Ex H H' → DT K H' (.ref p) (ptD (ptOf m l)) → Q (.ref p) H'
theorem ok_point_of (B : Bl mg) (D0 : Df K mg "point_of" s_point_of) : Cal P w K mg base 1 "point_of" ["flat", "measures"] (spPtOf K) := by
  refine D0.cal sc_point_of (fun _ _ _ _ _ _ us hl => match us, hl with | [_, _], _ => rfl) (fun vs H Q E h => ?_) (fun f cdv A outer s H vs Q E hr h => ?_)
  · obtain ⟨a, l, m, rfl, _⟩ := h
    rfl
  · obtain ⟨a, l, m, rfl, hS, hm, hml, hl, q⟩ := h
    refine ⟨_, (pss_cons (ps_set (i := 2) sc_point_of.nd rfl (.inl rfl) (pe_op (r := rCatA K) op_catA (pe_tup (pa_cons pe_int pa_nil)) (pe_callTy (r := rTupOf K) call_tuple_of (by rfl) B.tuple_ (by decide +kernel) (pa_cons (pe_slice (r := rSlX K) sl_any (pv 0) po_none (po_some (pe_un un_neg (pv 1)))) pa_nil))))
      (pss_one (ps_ret (pe_slice (r := rSlA K) sl_tupA (pv 2) (po_some (pe_un un_neg pe_int)) po_none)))), ?_⟩
    walk_at "rd"
    have hS2 : ∀ p, H p = none → SqT K (upd H p (.tup [.int 0])) a (l.map V.int) ∨ SqL K (upd H p (.tup [.int 0])) a (l.map V.int) := fun p hp => hS.imp (fun h => (Gr.new (m := nob) hp).seqT h) fun h => (Gr.new (m := nob) hp).seqL h id
    refine ⟨by decide, fun p hp => ?_⟩
    have e1 : Ex H (upd H p (.tup [.int 0])) := .new hp
    have f1 := upd_same (H := H) (a := p) (o := .tup [.int 0])
    replace hS := hS2 p hp
    generalize upd H p (.tup [.int 0]) = H1 at e1 f1 hS ⊢
    have cut : cutV (l.map V.int) none (some (-(m : Int))) = (l.take (l.length - m)).map V.int := by
      rw [cut_back hm (by rw [List.length_map]; omega), List.length_map, List.map_take]
    refine sl_back (n := l.length) hS (by rw [List.length_map]) hm (by omega) fun b H2 e2 hb => ?_
    rw [cut] at hb
    have hn0 : (l.take (l.length - m)).map V.int ≠ [] := fun z => by
      have := congrArg List.length z
      rw [List.length_map, List.length_take, List.length_nil] at this
      omega
    have fin : ∀ c H3, Ex H2 H3 → SqT K H3 c ((l.take (l.length - m)).map V.int) → rCatA K (V.ref p) (.ref c) H3 fun x H1 => rSlA K x (some (-2)) none H1 Q := fun c H3 e3 hc => by
      refine ⟨p, c, [.int 0], _, rfl, rfl, sqT ((e2.trans e3).get f1), hc, Nat.le_trans (show [V.int 0].length + ((l.take (l.length - m)).map V.int).length ≤ 20 by rw [List.length_map, List.length_take, List.length_singleton]; omega) (by decide), (fun z => by cases z), fun _ z => absurd z hn0, fun _ _ p3 hp3 => ?_⟩
      refine sl_two (xs := (0 :: l.take (l.length - m)).map V.int) (sqT upd_same) (by rw [List.length_map, List.length_cons, List.length_take]; omega) fun b4 H4 e4 h4 => ?_
      refine q b4 H4 (((e1.trans e2).trans e3).trans ((Gr.new hp3).trans e4)) ?_
      have hl2 : (0 :: l.take (l.length - m)).length = l.length - m + 1 := by
        rw [List.length_cons, List.length_take]
        omega
      rw [List.length_map, ← List.map_drop, drop_two _ (by omega), hl2] at h4
      exact .tup h4 (.cons (.int _) (.cons (.int _) .nil))
    rcases hb with hb | hb
    · exact ⟨b, _, rfl, .inr ⟨hb, fin b H2 .refl hb⟩⟩
    · exact ⟨b, _, rfl, .inl ⟨hb, fun T' hT => fin T' _ (.new hT) (sqT upd_same)⟩⟩
end
end K11

namespace K11
open PySem PySem.Spec PyProof.Rows L2 Z ZE RZ
local macro_rules | `(tactic| walk_at "rd") => `(tactic| try simp only [cxOf, tSeq, tIfS, tRet, tRetN, tAsg, tDrop, tNext, tBreak, tCont, tNever, tPar, tPar3, tAug, gName, gTup, gCons, gNil, gSub, tVar, tC, tOp, tUn, tCB, tBM, tBM0, tCons, tNil, tTest, tB, tAnd, tOr, tNot, tAndV, tOrV, tNotV, tIf, tChain,
  tTup, tLst, tCall, tMeth, tSl, tPart, tNoPart, tM1, tFmt, tJs_nil, tJs_cons, tCKw, rI0, rI, rU, rEq, rNe, scal_ii, scal_ss, scal_bb, ipI, iStr, iTup, iList, iRng1, sFld, tFld, L2.start, List.getElem?_cons_zero, List.getElem?_cons_succ, List.set_cons_zero, List.set_cons_succ, Option.some.injEq, V.int.injEq, V.bl.injEq, V.str.injEq, V.ref.injEq,
  List.cons.injEq, exists_and_left, exists_eq_left', exists_eq_left, exists_eq_right, exists_eq_right', exists_eq', exists_eq, and_true, true_and, and_self, List.map_cons, List.map_nil, List.length_cons, List.length_nil, List.replicate_succ, List.replicate_zero, List.cons_append, List.nil_append, List.append_nil,
  Nat.add_sub_cancel, Nat.reduceAdd, Nat.reduceSub, if_true, if_false, ite_true, ite_false, Bool.not_true, Bool.not_false, Bool.true_eq_false, Bool.false_eq_true, reduceIte, reduceCtorEq, false_and, exists_false, or_false, false_or, decide_true, decide_false, wipe])

section
variable {P : Program} {w : World} {K : PySem.W.Frag} {mg : Str → Option Value} {base : Heap} {C : Addr}
abbrev s_points_of_kind : Stmt := topS 62
theorem sc_points_of_kind : FnScope ["order", "kind", "name", "count", "worths", "found", "at", "_", "refused", "flat", "person", "worth"] ["order", "kind"] (defScope s_points_of_kind) := ⟨rfl, rfl, rfl, by decide +kernel, rfl, by decide +kernel, by decide +kernel⟩
def spPtsK (K : PySem.W.Frag) (C : Addr) : Sp := fun vs H Q _ => ∃ x v o k, vs = [.ref x, v] ∧ OrdAt K C H x o ∧ k ∈ o.ks ∧ DT K H v k.d ∧ ∀ r H', Ex H H' → DT K H' r (rowD (ptsK o k)) → Q r H'
theorem ok_points_of_kind (B : Bl mg) (p_people : Prp P w K mg base 1 C "people" "_people") (c_point_of : Cal P w K mg base 1 "point_of" ["flat", "measures"] (spPtOf K)) (D0 : Df K mg "_points_of_kind" s_points_of_kind) : Cal P w K mg base 3 "_points_of_kind" ["order", "kind"] (spPtsK K C) := by
  refine D0.cal sc_points_of_kind (fun _ _ _ _ _ _ us hl => match us, hl with | [_, _], _ => rfl) (fun vs H Q E h => ?_) (fun f cdv A outer s H vs Q E hr h => ?_)
  · obtain ⟨x, v, o, k, rfl, _⟩ := h
    rfl
  · obtain ⟨x, v, o, k, rfl, O, hk, hv, q⟩ := h
    refine ⟨_, (pss_cons (ps_asg (pv 1) (pg_tup rfl (pgs_cons (pg_name (i := 2) sc_points_of_kind.nd rfl (.inl rfl)) (pgs_cons (pg_name (i := 3) sc_points_of_kind.nd rfl (.inl rfl)) (pgs_cons (pg_name (i := 4) sc_points_of_kind.nd rfl (.inr rfl)) pgs_nil)))))
      (pss_cons (ps_set (i := 5) sc_points_of_kind.nd rfl (.inl rfl) (pe_lst pa_nil))
      (pss_cons (ps_for PassesOwn.never rfl (pi_enumT rfl B.enumerate_ (pa_cons (pe_prp p_people hr (by decide) (pv 0)) pa_nil)) (pg_tup rfl (pgs_cons (pg_name (i := 6) sc_points_of_kind.nd rfl (.inr rfl)) (pgs_cons (pg_tup rfl (pgs_cons (pg_name (i := 7) sc_points_of_kind.nd rfl (.inl rfl)) (pgs_cons (pg_name (i := 7) sc_points_of_kind.nd rfl (.inl rfl)) (pgs_cons (pg_name (i := 8) sc_points_of_kind.nd rfl (.inl rfl)) pgs_nil)))) pgs_nil))) (pss_one (ps_if (pt_cmpR (r := rIn K true) op_notIn_seq (pv 2) (pv 8) (by rfl)) (pss_cons (ps_setLc2 (i := 9) (own := [("person", 10), ("worth", 11)]) (vs1 := [11]) (g := gName 10) (g1 := gName 11) rfl sc_points_of_kind.nd rfl rfl (sw_true rfl rfl rfl (by decide +kernel)) (pi_range1 rfl B.range_ (pa_cons (pe_callB (r := rLenQ K) call_len_seq (by rfl) B.len_ PySem.boot_len (pa_cons (pe_prp p_people hr (by decide) (pv 0)) pa_nil)) pa_nil)) (blkOk_by (N := ["order", "kind", "name", "count", "worths", "found", "at", "_", "refused", "flat", "person", "worth"]) (sc := defScope s_points_of_kind) (by decide +kernel)) (by decide) (fun _ _ _ _ _ => (pg_name (i := 10) sc_points_of_kind.nd rfl (.inl rfl))) (fun _ _ _ _ _ => pts_nil) (fun _ _ _ _ _ => (pi_tupK (K := K) (by rfl) (pv 4))) (fun _ _ _ _ _ => (pg_name (i := 11) sc_points_of_kind.nd rfl (.inl rfl))) (fun _ _ _ _ _ => pts_nil) (fun _ _ _ _ _ => (pe_ifExp (pt_cmpR op_eq (pv 6) (pv 10) (nomark _)) (pv 11) pe_int)))
      (pss_one (ps_expr (pe_bm PySem.F.plainAttrs_list PySem.F.slot_list_append PySem.F.type_list_append mt_append (pv 5) (pa_cons (pe_tup (pa_cons (pv 6) (pa_cons (pe_cal c_point_of hr (by decide) rfl (pa_cons (pv 9) (pa_cons (pe_callB (r := rLenQ K) call_len_seq (by rfl) B.len_ PySem.boot_len (pa_cons (pv 4) pa_nil)) pa_nil))) pa_nil))) pa_nil))))) pss_nil)))
      (pss_one (ps_ret (pe_callTy (r := rTupOf K) call_tuple_of (by rfl) B.tuple_ (by decide +kernel) (pa_cons (pv 5) pa_nil))))))), ?_⟩
    walk_at "rd"
    have ho := O.ok
    have hm1 := ho.m1
    have hp1 := ho.p1
    have hko := ho.k2 k hk
    obtain ⟨p', b', rfl, hk1, hk2⟩ := hv.kd
    refine ⟨p', rfl, _, hk1, rfl, _, _, rfl, _, _, rfl, _, _, rfl, rfl, by decide, fun L hL => ?_⟩
    obtain ⟨dx, a, b, c, hx, hp⟩ := id O
    obtain ⟨px, p1, p2⟩ := hp.p
    have hpl := p2.lenM
    have e1 : Ex H (upd H L (.lst [])) := .new hL
    have f1 := upd_same (H := H) (a := L) (o := .lst [])
    generalize upd H L (.lst []) = H1 at e1 f1 ⊢
    refine forE (a := c) (xs := px) (fun R h => fldO rfl (e1.get hx) (fl_p _ _ _ _) h) (e1.seqT p1) (fun i σ' H' => ∃ (y6 y7 y8 y9 y10 y11 : Option V) (ys : List V), σ' = [some (.ref x), some (.ref p'), some (.str k.n), some (.int k.c), some (.ref b'), some (.ref L), y6, y7, y8, y9, y10, y11] ∧ Ex H H' ∧ H' L = some (.lst ys) ∧ DTs K H' ys ((tkr o k (o.ps.zipIdx.take i)).map tkD)) ⟨_, _, _, _, _, _, [], rfl, e1, f1, .nil⟩ (fun i σ' H' ⟨_, _, _, _, _, _, _, _, e, _⟩ => e.seqT p1) ?_ ?_
    · rintro i y T σ' H' hy ⟨y6, y7, y8, y9, y10, y11, ys, rfl, e, fL, hys⟩ hT
      obtain ⟨p, hpi, hpd⟩ := p2.getM hy
      have e2 : Ex H' (upd H' T (.tup [.int (i : Int), y])) := .new hT
      have E2 := e.trans e2
      obtain ⟨r', c', rfl, h4, h5⟩ := (hpd.mono E2.any).pn
      have hi : i < o.ps.length := (List.getElem?_eq_some_iff.mp hpi).1
      have hz : o.ps.zipIdx.take (i + 1) = o.ps.zipIdx.take i ++ [(p, i)] := by
        rw [List.take_add_one, List.getElem?_zipIdx, hpi]
        simp
      have hys2 := hys.mono e2.any
      have fL2 := e2.get fL
      walk_at "rd"
      refine ⟨_, sqT upd_same, rfl, _, _, rfl, _, _, rfl, r', rfl, _, h4, rfl, _, _, rfl, _, _, rfl, _, _, rfl, rfl, rfl, ?_⟩
      generalize upd H' T (.tup [.int (i : Int), .ref r']) = H2 at *
      refine ⟨c', _, rfl, .inr h5, rfl, Z.flat_strs _, ?_⟩
      rw [inV_strs]
      by_cases hin : k.n ∈ p.r
      · rw [decide_eq_true hin]
        refine ⟨_, rfl, iteF ⟨_, _, _, _, _, _, ⟨rfl, rfl, rfl, rfl, rfl, rfl⟩, E2, ys, fL2, ?_⟩⟩
        have : tkr o k (o.ps.zipIdx.take (i + 1)) = tkr o k (o.ps.zipIdx.take i) := by
          rw [hz, tkr, List.filter_append, List.filter_cons, decide_eq_true hin]
          simp [tkr]
        rw [this]
        exact hys2
      · rw [decide_eq_false hin]
        refine ⟨_, rfl, iteT ?_⟩
        refine lc2d (fun J H3 => J = Itr 0 o.ps.length ∧ H3 = H2) (fun R h => ?_) ?_
        · unfold iRng1
          walk_at "rd"
          refine fldO rfl (E2.get hx) (fl_p _ _ _ _) ⟨c, px, rfl, .inr (E2.seqT p1), _, rfl, by omega, by omega, h _ _ ⟨by rw [Int.toNat_natCast, hpl], rfl⟩⟩
        rintro J _ ⟨rfl, rfl⟩
        have hwl : k.w.length = o.ms.length := hko.l
        have hfl : (flatAt o.np k.w i).length = o.ps.length * k.w.length := by
          rw [flatAt, flat_len _ fun p _ => List.length_map _, List.length_range]
          rfl
        have hnm : o.ps.length * k.w.length ≤ 3 * 2 := Nat.mul_le_mul hp1.2 (by omega)
        have hnm2 : 2 * k.w.length ≤ o.ps.length * k.w.length := Nat.mul_le_mul hp1.1 (Nat.le_refl _)
        have hS2 := E2.seqT hk2
        refine lc2R (α := Int) (fun d y _ => y = .int d) (fun d y H H' h _ => h) ((List.range o.np).map fun p => k.w.map fun x => if i = p then x else 0) (by rw [List.length_map, List.length_range]; exact walk_range (lo := 0)) (fun R h => h) (fun H' e => trivial) (show (flatAt o.np k.w i).length ≤ 90000 by omega) ?_ ?_
        · rintro D j z H3 H4 ds hD hds e3 _ ⟨rfl, rfl⟩ F hF
          have hj : j < o.np := by
            have := (List.getElem?_eq_some_iff.mp hds).1
            rwa [List.length_map, List.length_range] at this
          rw [List.getElem?_map, List.getElem?_range hj] at hds
          cases hds
          walk_at "rd"
          refine hF _ _ rfl .refl fun R h => ⟨_, rfl, b', rfl, ⟨_, e3.seqT hS2⟩, ?_⟩
          refine h _ _ _ _ (by rw [List.length_map, ← List.length_map (as := k.w) V.int]; exact walk_tup (K := K) (a := b') (xs := k.w.map V.int)) .refl (fun H5 g5 => g5.seqT (e3.seqT hS2)) ?_
          rintro l z H5 H6 Q' d hd g5 ⟨rfl, hz⟩ kk
          rw [List.getElem?_map] at hd hz
          cases e4 : k.w[l]? with
          | none =>
            rw [e4] at hd
            cases hd
          | some wl =>
            rw [e4] at hd hz
            cases hd
            cases hz
            walk_at "rd"
            by_cases hij : i = j
            · rw [decide_eq_true (show (i : Int) = 0 + (j : Int) by omega)]
              exact iteT (kk _ _ .refl (show V.int wl = V.int (if i = j then wl else 0) by rw [if_pos hij]))
            · rw [decide_eq_false (show ¬ (i : Int) = 0 + (j : Int) by omega)]
              exact iteF (kk _ _ .refl (show V.int 0 = V.int (if i = j then wl else 0) by rw [if_neg hij]))
        · intro D2 zs H3 hD2 e3 f3 l3 r3
          have hzs : zs = (flatAt o.np k.w i).map V.int := all_ints l3 r3
          subst hzs
          refine ⟨.inl ⟨rfl, _, sqL (e3.get fL2)⟩, b', _, rfl, .inr (e3.seqT hS2), ?_⟩
          rw [List.length_map]
          refine ⟨D2, flatAt o.np k.w i, k.w.length, rfl, .inr (sqL f3), by omega, by omega, by omega, fun p3 H4 e4 hpt => ⟨by decide, fun p5 hp5 => ?_⟩⟩
          have e5 : Ex H4 (upd H4 p5 (.tup [.int (i : Int), .ref p3])) := .new hp5
          have f5 := upd_same (H := H4) (a := p5) (o := .tup [.int (i : Int), .ref p3])
          have fL5 := e5.get (e4.get (e3.get fL2))
          have hys5 := hys2.mono ((e3.trans e4).trans e5).any
          have hpt5 := hpt.mono e5.any
          have E5 := E2.trans ((e3.trans e4).trans e5)
          generalize upd H4 p5 (.tup [.int (i : Int), .ref p3]) = H5 at *
          have hyl := hys5.lenM
          have htl : (tkr o k (o.ps.zipIdx.take i)).length ≤ 3 := by
            rw [tkr, List.length_map]
            refine Nat.le_trans (List.length_filter_le _ _) ?_
            rw [List.length_take, List.length_zipIdx]
            omega
          refine ⟨L, _, _, rfl, rfl, fL5, smallt (by omega), ⟨_, _, _, _, _, _, ⟨rfl, rfl, rfl, rfl, rfl, rfl⟩, E5.put fL5 (.inl hL), _, upd_same, ?_⟩⟩
          have hnew : tkr o k (o.ps.zipIdx.take (i + 1)) = tkr o k (o.ps.zipIdx.take i) ++ [(i, ptAt o k i)] := by
            rw [hz, tkr, List.filter_append, List.filter_cons, decide_eq_false hin]
            simp [tkr]
          have gu : Gr any H5 (upd H5 L (.lst (ys ++ [V.ref p5]))) := Gr.refl.put fL5 (.inr trivial)
          rw [hnew, List.map_append]
          exact dtsSnoc (hys5.mono gu) ((DT.tup (sqT f5) (.cons (.int _) (.cons hpt5 .nil))).mono gu)
    · rintro σ' H' ⟨y6, y7, y8, y9, y10, y11, ys, rfl, e, fL, hys⟩
      walk_at "rd"
      refine ⟨L, ys, rfl, .inl ⟨sqL fL, fun T hT => q (.ref T) _ (e.trans (.new hT)) ?_⟩⟩
      rw [List.take_of_length_le (by rw [List.length_zipIdx]; omega)] at hys
      exact .tup (sqT upd_same) (hys.mono (Gr.new hT))
end
end K11

namespace K11
open PySem PySem.Spec PyProof.Rows L2 Z ZE RZ
local macro_rules | `(tactic| walk_at "rd") => `(tactic| try simp only [cxOf, tSeq, tIfS, tRet, tRetN, tAsg, tDrop, tNext, tBreak, tCont, tNever, tPar, tPar3, tAug, gName, gTup, gCons, gNil, gSub, tVar, tC, tOp, tUn, tCB, tBM, tBM0, tCons, tNil, tTest, tB, tAnd, tOr, tNot, tAndV, tOrV, tNotV, tIf, tChain,
  tTup, tLst, tCall, tMeth, tSl, tPart, tNoPart, tM1, tFmt, tJs_nil, tJs_cons, tCKw, rI0, rI, rU, rEq, rNe, scal_ii, scal_ss, scal_bb, ipI, iStr, iTup, iList, iRng1, sFld, tFld, L2.start, List.getElem?_cons_zero, List.getElem?_cons_succ, List.set_cons_zero, List.set_cons_succ, Option.some.injEq, V.int.injEq, V.bl.injEq, V.str.injEq, V.ref.injEq,
  List.cons.injEq, exists_and_left, exists_eq_left', exists_eq_left, exists_eq_right, exists_eq_right', exists_eq', exists_eq, and_true, true_and, and_self, List.map_cons, List.map_nil, List.length_cons, List.length_nil, List.replicate_succ, List.replicate_zero, List.cons_append, List.nil_append, List.append_nil,
  Nat.add_sub_cancel, Nat.reduceAdd, Nat.reduceSub, if_true, if_false, ite_true, ite_false, Bool.not_true, Bool.not_false, Bool.true_eq_false, Bool.false_eq_true, reduceIte, reduceCtorEq, false_and, exists_false, or_false, false_or, decide_true, decide_false, wipe])

section
variable {P : Program} {w : World} {K : PySem.W.Frag} {mg : Str → Option Value} {base : Heap} {C : Addr}
abbrev s_points_of_things : Stmt := topS 58
theorem sc_points_of_things : FnScope ["order", "kind"] ["order"] (defScope s_points_of_things) := ⟨rfl, rfl, rfl, by decide +kernel, rfl, by decide +kernel, by decide +kernel⟩
def spPtsO (K : PySem.W.Frag) (C : Addr) : Sp := fun vs H Q _ => ∃ x o, vs = [.ref x] ∧ OrdAt K C H x o ∧ ∀ l ys H', Ex H H' → H l = none → H' l = some (.lst ys) → DTs K H' ys ((ptsO o).map rowD) → Q (.ref l) H'
theorem ok_points_of_things (p_kinds : Prp P w K mg base 1 C "kinds" "_kinds") (c_points_of_kind : Cal P w K mg base 3 "_points_of_kind" ["order", "kind"] (spPtsK K C)) (D0 : Df K mg "points_of_things" s_points_of_things) : Cal P w K mg base 4 "points_of_things" ["order"] (spPtsO K C) := by
  refine D0.cal sc_points_of_things (fun _ _ _ _ _ _ us hl => match us, hl with | [_], _ => rfl) (fun vs H Q E h => ?_) (fun f cdv A outer s H vs Q E hr h => ?_)
  · obtain ⟨x, o, rfl, _⟩ := h
    rfl
  · obtain ⟨x, o, rfl, O, q⟩ := h
    refine ⟨_, (pss_one (ps_ret (pe_lc (own := [("kind", 1)]) (g := gName 1) rfl sc_points_of_things.nd (pi_tup (pe_prp p_kinds hr (by decide) (pv 0))) (blkOk_by (N := ["order", "kind"]) (sc := defScope s_points_of_things) (by decide +kernel)) (fun _ _ _ _ _ => (pg_name (i := 1) sc_points_of_things.nd rfl (.inl rfl))) (fun _ _ _ _ _ => pts_nil) (fun _ _ _ _ _ => (pe_cal c_points_of_kind hr (by decide) rfl (pa_cons (pv 0) (pa_cons (pv 1) pa_nil))))))), ?_⟩
    walk_at "rd"
    refine lcTd (fun c H1 => H1 = H ∧ ∃ kx, SqT K H c kx ∧ DTs K H kx (o.ks.map Kd.d)) (fun R h => knd rfl O fun c px p1 p2 => h c H ⟨rfl, px, p1, p2⟩) ?_
    rintro c _ ⟨rfl, kx, k1, k2⟩
    have hkl := k2.lenM
    have hk4 := O.ok.k1
    refine lcT0 (a := c) (xs := kx) (fun R h => h) k1 (by omega) (fun i y H' => ∃ k, o.ks[i]? = some k ∧ DT K H' y (rowD (ptsK o k))) (fun i y H1 H2 ⟨k, z1, z2⟩ e => ⟨k, z1, z2.mono e⟩) ?_ ?_
    · intro i y H' Q' hy e q'
      obtain ⟨k, h2, h3⟩ := k2.getM hy
      walk_at "rd"
      exact ⟨x, y, o, k, rfl, O.up e id, List.mem_of_getElem? h2, h3.mono e.any, fun r H2 e2 hr => q' r H2 e2 ⟨k, h2, hr⟩⟩
    · intro D ys H' hD e h1 h2 h3
      refine q D ys H' e hD h1 (DTs.of (by rw [h2, hkl, List.length_map, ptsO, List.length_map]) fun i y hy => ?_)
      obtain ⟨k, z1, z2⟩ := h3 i y hy
      exact ⟨_, by rw [ptsO, List.map_map, List.getElem?_map, z1]; rfl, z2⟩
end
end K11

namespace K11
open PySem PySem.Spec PyProof.Rows L2 Z ZE RZ
local macro_rules | `(tactic| walk_at "rd") => `(tactic| try simp only [cxOf, tSeq, tIfS, tRet, tRetN, tAsg, tDrop, tNext, tBreak, tCont, tNever, tPar, tPar3, tAug, gName, gTup, gCons, gNil, gSub, tVar, tC, tOp, tUn, tCB, tBM, tBM0, tCons, tNil, tTest, tB, tAnd, tOr, tNot, tAndV, tOrV, tNotV, tIf, tChain,
  tTup, tLst, tCall, tMeth, tSl, tPart, tNoPart, tM1, tFmt, tJs_nil, tJs_cons, tCKw, rI0, rI, rU, rEq, rNe, scal_ii, scal_ss, scal_bb, ipI, iStr, iTup, iList, iRng1, sFld, tFld, L2.start, List.getElem?_cons_zero, List.getElem?_cons_succ, List.set_cons_zero, List.set_cons_succ, Option.some.injEq, V.int.injEq, V.bl.injEq, V.str.injEq, V.ref.injEq,
  List.cons.injEq, exists_and_left, exists_eq_left', exists_eq_left, exists_eq_right, exists_eq_right', exists_eq', exists_eq, and_true, true_and, and_self, List.map_cons, List.map_nil, List.length_cons, List.length_nil, List.replicate_succ, List.replicate_zero, List.cons_append, List.nil_append, List.append_nil,
  Nat.add_sub_cancel, Nat.reduceAdd, Nat.reduceSub, if_true, if_false, ite_true, ite_false, Bool.not_true, Bool.not_false, Bool.true_eq_false, Bool.false_eq_true, reduceIte, reduceCtorEq, false_and, exists_false, or_false, false_or, decide_true, decide_false, wipe])

section
variable {P : Program} {w : World} {K : PySem.W.Frag} {mg : Str → Option Value} {base : Heap} {C : Addr}
theorem dirB_len (a : Pt) (r : Row) : (dirB a r).length ≤ r.length := by
  rw [dirB, List.length_map]
  exact List.length_filter_le _ _
theorem dirR_len {r : Row} (h : r.length ≤ 3) : (dirR r).length ≤ 9 := by
  have := flat_le (n := 3) (f := fun e : Nat × Pt => dirB e.2 r) r fun e _ => Nat.le_trans (dirB_len _ _) h
  unfold dirR
  omega
abbrev s_directions : Stmt := topS 63
theorem sc_directions : FnScope ["rows", "found", "row", "_", "one", "other"] ["rows"] (defScope s_directions) := ⟨rfl, rfl, rfl, by decide +kernel, rfl, by decide +kernel, by decide +kernel⟩
def spDirs (K : PySem.W.Frag) : Sp := fun vs H Q _ => ∃ (a : Addr) (xs : List V) (rows : List Row), vs = [.ref a] ∧ H a = some (.lst xs) ∧ DTs K H xs (rows.map rowD) ∧ rows.length ≤ 4 ∧ (∀ r ∈ rows, r.length ≤ 3) ∧ ∀ l ys H', Ex H H' → H l = none → H' l = some (.lst ys) → DTs K H' ys ((dirs rows).map ptD) → Q (.ref l) H'
theorem ok_directions {A_AXES : Addr} (B : Bl mg) (k_AXES : mg "_AXES" = some (.ref A_AXES)) (hAX : ∀ H, ∃ xs, SqT K H A_AXES xs ∧ DTs K H xs (axes.map ptD)) (D0 : Df K mg "_directions" s_directions) : Cal P w K mg base 1 "_directions" ["rows"] (spDirs K) := by
  refine D0.cal sc_directions (fun _ _ _ _ _ _ us hl => match us, hl with | [_], _ => rfl) (fun vs H Q E h => ?_) (fun f cdv A outer s H vs Q E hr h => ?_)
  · obtain ⟨a, xs, rows, rfl, _⟩ := h
    rfl
  · obtain ⟨a, xs, rows, rfl, h1, h2, h3, h4, q⟩ := h
    refine ⟨_, (pss_cons (ps_set (i := 1) sc_directions.nd rfl (.inl rfl) (pe_callTy call_list_of (by rfl) B.list_ (by decide +kernel) (pa_cons (pe_glob (v := .ref A_AXES) rfl k_AXES rfl) pa_nil)))
      (pss_cons (ps_for PassesOwn.never rfl (pi_list (pv 0)) (pg_name (i := 2) sc_directions.nd rfl (.inl rfl)) (pss_one (ps_for PassesOwn.never rfl (pi_tup (pv 2)) (pg_tup rfl (pgs_cons (pg_name (i := 3) sc_directions.nd rfl (.inl rfl)) (pgs_cons (pg_name (i := 4) sc_directions.nd rfl (.inl rfl)) pgs_nil))) (pss_one (ps_for PassesOwn.never rfl (pi_tup (pv 2)) (pg_tup rfl (pgs_cons (pg_name (i := 3) sc_directions.nd rfl (.inl rfl)) (pgs_cons (pg_name (i := 5) sc_directions.nd rfl (.inl rfl)) pgs_nil))) (pss_one (ps_if (pt_cmpR (r := rNeD K) (op_neD hr.units) (pv 4) (pv 5) (nomark _)) (pss_one (ps_expr (pe_bm PySem.F.plainAttrs_list PySem.F.slot_list_append PySem.F.type_list_append mt_append (pv 1) (pa_cons (pe_tup (pa_cons (pe_op op_sub (pe_ix (r := rIxT K) ix_tup (pv 4) pe_int (fun _ _ => rfl)) (pe_ix (r := rIxT K) ix_tup (pv 5) pe_int (fun _ _ => rfl))) (pa_cons (pe_op op_sub (pe_ix (r := rIxT K) ix_tup (pv 5) pe_int (fun _ _ => rfl)) (pe_ix (r := rIxT K) ix_tup (pv 4) pe_int (fun _ _ => rfl))) pa_nil))) pa_nil)))) pss_nil)))))))
      (pss_one (ps_ret (pv 1))))), ?_⟩
    walk_at "rd"
    obtain ⟨ax, hx1, hx2⟩ := hAX H
    refine ⟨ax, .inr hx1, fun L hL => ?_⟩
    have e1 : Ex H (upd H L (.lst ax)) := .new hL
    have f1 := upd_same (H := H) (a := L) (o := .lst ax)
    have hx3 := hx2.mono e1.any
    generalize upd H L (.lst ax) = H1 at e1 f1 hx3 ⊢
    -- what has been found with so many directions
    let At : List Pt → Hp → Prop := fun ds H' => Ex H H' ∧ ∃ ys, H' L = some (.lst ys) ∧ DTs K H' ys (ds.map ptD)
    have hrl := h2.lenM
    refine forLs (a := a) (xs := xs) (fun R h => ⟨_, rfl, h⟩) (sqL (e1.get h1)) (fun i σ' H' => ∃ (y2 y3 y4 y5 : Option V), σ' = [some (.ref a), some (.ref L), y2, y3, y4, y5] ∧ At (axes ++ ((rows.take i).map dirR).flatten) H') ⟨_, _, _, _, rfl, e1, ax, f1, by simpa using hx3⟩ (fun i σ' H' ⟨_, _, _, _, _, e, _⟩ => sqL (e.get h1)) ?_ ?_
    · rintro i x σ' H' hx ⟨y2, y3, y4, y5, rfl, e, ys, fL, hys⟩
      obtain ⟨r, hr, hrd⟩ := h2.getM hx
      obtain ⟨b, rs, rfl, S, s⟩ := dtT hrd
      have hrl3 := h4 r (List.mem_of_getElem? hr)
      have hi : i < rows.length := (List.getElem?_eq_some_iff.mp hr).1
      have hz : ((rows.take (i + 1)).map dirR).flatten = ((rows.take i).map dirR).flatten ++ dirR r := by
        rw [List.take_add_one, hr]
        simp
      have hsl := s.lenM
      walk_at "rd"
      refine forTp (a := b) (xs := rs) (fun R h => ⟨_, rfl, h⟩) (e.seqT S) (fun j σ' H' => ∃ (y3 y4 y5 : Option V), σ' = [some (.ref a), some (.ref L), some (.ref b), y3, y4, y5] ∧ At (axes ++ ((rows.take i).map dirR).flatten ++ ((r.take j).map fun e => dirB e.2 r).flatten) H') ⟨_, _, _, rfl, e, ys, fL, by simpa using hys⟩ (fun j σ' H' ⟨_, _, _, _, e, _⟩ => e.seqT S) ?_ ?_
      · rintro j y σ' H2 hy ⟨y3, y4, y5, rfl, e2, zs, fL2, hzs⟩
        obtain ⟨ej, hej, hed⟩ := s.getM hy
        obtain ⟨c, cs, rfl, S2, s2⟩ := dtT hed
        have hj : j < r.length := (List.getElem?_eq_some_iff.mp hej).1
        have hzj : ((r.take (j + 1)).map fun e => dirB e.2 r).flatten = ((r.take j).map fun e => dirB e.2 r).flatten ++ dirB ej.2 r := by
          rw [List.take_add_one, hej]
          simp
        cases s2 with
        | cons z1 s2 => cases s2 with
          | cons z2 s2 =>
            cases s2
            cases z1
            obtain ⟨pa, rfl, SA⟩ := DT.pair z2
            walk_at "rd"
            refine ⟨_, e2.seqT S2, rfl, _, _, rfl, _, _, rfl, rfl, ?_⟩
            refine forTp (a := b) (xs := rs) (fun R h => ⟨_, rfl, h⟩) (e2.seqT S) (fun l σ' H' => ∃ (y3 y5 : Option V), σ' = [some (.ref a), some (.ref L), some (.ref b), y3, some (.ref pa), y5] ∧ At (axes ++ ((rows.take i).map dirR).flatten ++ ((r.take j).map fun e => dirB e.2 r).flatten ++ dirB ej.2 (r.take l)) H') ⟨_, _, rfl, e2, zs, fL2, by simpa [dirB] using hzs⟩ (fun j σ' H' ⟨_, _, _, e, _⟩ => e.seqT S) ?_ ?_
            · rintro l y2 σ' H3 hy2 ⟨y3, y5, rfl, e3, ws, fL3, hws⟩
              obtain ⟨el, hel, held⟩ := s.getM hy2
              obtain ⟨c2, cs2, rfl, S3, s3⟩ := dtT held
              have hl : l < r.length := (List.getElem?_eq_some_iff.mp hel).1
              have htl : r.take (l + 1) = r.take l ++ [el] := by rw [List.take_add_one, hel]; rfl
              cases s3 with
              | cons z1 s3 => cases s3 with
                | cons z3 s3 =>
                  cases s3
                  cases z1
                  obtain ⟨pb, rfl, SB⟩ := DT.pair z3
                  walk_at "rd"
                  refine ⟨_, e3.seqT S3, rfl, _, _, rfl, _, _, rfl, rfl, ?_⟩
                  have dp : ∀ {p : Addr} {q : Pt}, SqT K H p [.int q.1, .int q.2] → Dp K H3 (.ref p) (.tuple ([q.1, q.2].map PyData.int)) := fun h => .tup (e3.seqT h) (.cons (.int _) (.cons (.int _) .nil))
                  refine ⟨_, _, dp SA, dp SB, shaped_ints _, shaped_ints _, _, rfl, ?_⟩
                  have ee : PyData.eqv (.tuple ([ej.2.1, ej.2.2].map PyData.int)) (.tuple ([el.2.1, el.2.2].map PyData.int)) = decide (ej.2 = el.2) := by
                    show PyData.eqvAll _ _ = _
                    rw [eqv_ints]
                    refine decide_eq_decide.mpr ⟨fun z => ?_, fun z => by rw [z]⟩
                    simp only [List.cons.injEq, and_true] at z
                    exact Prod.ext z.1 z.2
                  rw [ee]
                  by_cases hq : ej.2 = el.2
                  · rw [decide_eq_true hq]
                    refine iteF ⟨_, _, ⟨rfl, rfl⟩, e3, ws, fL3, ?_⟩
                    have : dirB ej.2 (r.take (l + 1)) = dirB ej.2 (r.take l) := by
                      rw [htl, dirB, List.filter_append, List.filter_cons, decide_eq_true hq]
                      simp [dirB]
                    rw [this]
                    exact hws
                  · rw [decide_eq_false hq]
                    have A1 := e3.seqT SA
                    have B1 := e3.seqT SB
                    refine iteT ⟨.inl ⟨rfl, _, sqL fL3⟩, pa, _, 1, _, rfl, rfl, A1, atI_nat (j := 1) rfl, pb, _, 1, _, rfl, rfl, B1, atI_nat (j := 1) rfl, _, rfl, _, rfl, pb, _, 0, _, rfl, rfl, B1, atI_nat (j := 0) rfl, pa, _, 0, _, rfl, rfl, A1, atI_nat (j := 0) rfl, _, rfl, _, rfl, by decide, fun p6 hp6 => ?_⟩
                    have e6 : Ex H3 (upd H3 p6 (.tup [.int (ej.2.2 - el.2.2), .int (el.2.1 - ej.2.1)])) := .new hp6
                    have f6 := upd_same (H := H3) (a := p6) (o := .tup [.int (ej.2.2 - el.2.2), .int (el.2.1 - ej.2.1)])
                    generalize upd H3 p6 (.tup [.int (ej.2.2 - el.2.2), .int (el.2.1 - ej.2.1)]) = H6 at e6 f6 ⊢
                    have E6 := e3.trans e6
                    have fL6 := e6.get fL3
                    have hl1 := hws.lenM
                    have hl2 : ws.length ≤ 1000 := by
                      have a1 := flat_le (n := 9) (f := dirR) (rows.take i) fun x hx => dirR_len (h4 x (List.mem_of_mem_take hx))
                      have a2 := flat_le (n := 3) (f := fun e : Nat × Pt => dirB e.2 r) (r.take j) fun e _ => Nat.le_trans (dirB_len _ _) hrl3
                      have a3 := dirB_len ej.2 (r.take l)
                      rw [List.length_take] at a1 a2 a3
                      rw [hl1, List.length_append, List.length_append, List.length_append]
                      have a4 : axes.length = 4 := rfl
                      omega
                    have gu : Gr any H6 (upd H6 L (.lst (ws ++ [V.ref p6]))) := Gr.refl.put fL6 (.inr trivial)
                    refine ⟨L, _, _, rfl, rfl, fL6, smallt (by omega), _, _, ⟨rfl, rfl⟩, E6.put fL6 (.inl hL), _, upd_same, ?_⟩
                    have hnew : dirB ej.2 (r.take (l + 1)) = dirB ej.2 (r.take l) ++ [(ej.2.2 - el.2.2, el.2.1 - ej.2.1)] := by
                      rw [htl, dirB, List.filter_append, List.filter_cons, decide_eq_false hq]
                      simp [dirB]
                    rw [hnew, ← List.append_assoc, List.map_append]
                    exact dtsSnoc (hws.mono (e6.any.trans gu)) ((DT.tup (sqT f6) (.cons (.int _) (.cons (.int _) .nil))).mono gu)
            · rintro σ' H3 ⟨y3, y5, rfl, e3, ws, fL3, hws⟩
              rw [hsl, List.take_length] at hws
              refine ⟨_, _, _, rfl, e3, ws, fL3, ?_⟩
              rw [hzj, ← List.append_assoc]
              exact hws
      · rintro σ' H2 ⟨y3, y4, y5, rfl, e2, zs, fL2, hzs⟩
        rw [hsl, List.take_length] at hzs
        refine ⟨_, _, _, _, rfl, e2, zs, fL2, ?_⟩
        rw [hz, ← List.append_assoc]
        exact hzs
    · rintro σ' H' ⟨y2, y3, y4, y5, rfl, e, ys, fL, hys⟩
      walk_at "rd"
      rw [hrl, List.take_length] at hys
      exact q L ys H' e hL fL hys
end
end K11

namespace K11
open PySem PySem.Spec PyProof.Rows L2 Z ZE RZ
local macro_rules | `(tactic| walk_at "rd") => `(tactic| try simp only [cxOf, tSeq, tIfS, tRet, tRetN, tAsg, tDrop, tNext, tBreak, tCont, tNever, tPar, tPar3, tAug, gName, gTup, gCons, gNil, gSub, tVar, tC, tOp, tUn, tCB, tBM, tBM0, tCons, tNil, tTest, tB, tAnd, tOr, tNot, tAndV, tOrV, tNotV, tIf, tChain,
  tTup, tLst, tCall, tMeth, tSl, tPart, tNoPart, tM1, tFmt, tJs_nil, tJs_cons, tCKw, rI0, rI, rU, rEq, rNe, scal_ii, scal_ss, scal_bb, ipI, iStr, iTup, iList, iRng1, sFld, tFld, L2.start, List.getElem?_cons_zero, List.getElem?_cons_succ, List.set_cons_zero, List.set_cons_succ, Option.some.injEq, V.int.injEq, V.bl.injEq, V.str.injEq, V.ref.injEq,
  List.cons.injEq, exists_and_left, exists_eq_left', exists_eq_left, exists_eq_right, exists_eq_right', exists_eq', exists_eq, and_true, true_and, and_self, List.map_cons, List.map_nil, List.length_cons, List.length_nil, List.replicate_succ, List.replicate_zero, List.cons_append, List.nil_append, List.append_nil,
  Nat.add_sub_cancel, Nat.reduceAdd, Nat.reduceSub, if_true, if_false, ite_true, ite_false, Bool.not_true, Bool.not_false, Bool.true_eq_false, Bool.false_eq_true, reduceIte, reduceCtorEq, false_and, exists_false, or_false, false_or, decide_true, decide_false, wipe])

section
variable {P : Program} {w : World} {K : PySem.W.Frag} {mg : Str → Option Value} {base : Heap} {C : Addr}
abbrev s_along : Stmt := topS 64
theorem sc_along : FnScope ["direction", "point"] ["direction", "point"] (defScope s_along) := ⟨rfl, rfl, rfl, by decide +kernel, rfl, by decide +kernel, by decide +kernel⟩
def spAlong (K : PySem.W.Frag) : Sp := fun vs H Q _ => ∃ u v d p, vs = [u, v] ∧ DT K H u (ptD d) ∧ DT K H v (ptD p) ∧ smP p ∧ Q (.int (along d p)) H
theorem ok_along (D0 : Df K mg "_along" s_along) : Cal P w K mg base 1 "_along" ["direction", "point"] (spAlong K) := by
  refine D0.cal sc_along (fun _ _ _ _ _ _ us hl => match us, hl with | [_, _], _ => rfl) (fun vs H Q E h => ?_) (fun f cdv A outer s H vs Q E hr h => ?_)
  · obtain ⟨u, v, d, p, rfl, _⟩ := h
    rfl
  · obtain ⟨u, v, d, p, rfl, h1, h2, hp, q⟩ := h
    refine ⟨_, (pss_one (ps_ret (pe_op op_add (pe_op op_mul (pe_ix (r := rIxT K) ix_tup (pv 0) pe_int (fun _ _ => rfl)) (pe_ix (r := rIxT K) ix_tup (pv 1) pe_int (fun _ _ => rfl))) (pe_op op_mul (pe_ix (r := rIxT K) ix_tup (pv 0) pe_int (fun _ _ => rfl)) (pe_ix (r := rIxT K) ix_tup (pv 1) pe_int (fun _ _ => rfl)))))), ?_⟩
    walk_at "rd"
    obtain ⟨a, rfl, S1⟩ := DT.pair h1
    obtain ⟨b, rfl, S2⟩ := DT.pair h2
    refine ⟨a, _, 0, _, rfl, rfl, S1, atI_nat (j := 0) rfl, b, _, 0, _, rfl, rfl, S2, atI_nat (j := 0) rfl, _, rfl, _, rfl, .inr hp.1, ?_⟩
    exact ⟨a, _, 1, _, rfl, rfl, S1, atI_nat (j := 1) rfl, b, _, 1, _, rfl, rfl, S2, atI_nat (j := 1) rfl, _, rfl, _, rfl, .inr hp.2, q⟩
end
end K11

namespace K11
open PySem PySem.Spec PyProof.Rows L2 Z ZE RZ
local macro_rules | `(tactic| walk_at "rd") => `(tactic| try simp only [cxOf, tSeq, tIfS, tRet, tRetN, tAsg, tDrop, tNext, tBreak, tCont, tNever, tPar, tPar3, tAug, gName, gTup, gCons, gNil, gSub, tVar, tC, tOp, tUn, tCB, tBM, tBM0, tCons, tNil, tTest, tB, tAnd, tOr, tNot, tAndV, tOrV, tNotV, tIf, tChain,
  tTup, tLst, tCall, tMeth, tSl, tPart, tNoPart, tM1, tFmt, tJs_nil, tJs_cons, tCKw, rI0, rI, rU, rEq, rNe, scal_ii, scal_ss, scal_bb, ipI, iStr, iTup, iList, iRng1, sFld, tFld, L2.start, List.getElem?_cons_zero, List.getElem?_cons_succ, List.set_cons_zero, List.set_cons_succ, Option.some.injEq, V.int.injEq, V.bl.injEq, V.str.injEq, V.ref.injEq,
  List.cons.injEq, exists_and_left, exists_eq_left', exists_eq_left, exists_eq_right, exists_eq_right', exists_eq', exists_eq, and_true, true_and, and_self, List.map_cons, List.map_nil, List.length_cons, List.length_nil, List.replicate_succ, List.replicate_zero, List.cons_append, List.nil_append, List.append_nil,
  Nat.add_sub_cancel, Nat.reduceAdd, Nat.reduceSub, if_true, if_false, ite_true, ite_false, Bool.not_true, Bool.not_false, Bool.true_eq_false, Bool.false_eq_true, reduceIte, reduceCtorEq, false_and, exists_false, or_false, false_or, decide_true, decide_false, wipe])

section
variable {P : Program} {w : World} {K : PySem.W.Frag} {mg : Str → Option Value} {base : Heap} {C : Addr}
theorem P_in {o : Od} (ho : o.ok) : 0 < o.P ∧ o.P ≤ 9 := by
  have hp1 := ho.p1
  have := shares_bound (fun p hp => (ho.p3 p hp).s) ⟨by omega, hp1.2⟩
  unfold Z.Od.P
  omega
theorem P_pos {o : Od} (ho : o.ok) : 0 ≤ o.P := by
  have := P_in ho
  omega
theorem P_small {o : Od} (ho : o.ok) : sm o.P := by
  have := P_in ho
  exact ⟨by omega, by omega⟩
theorem low_mul {P w s : Int} (hP : 0 < P) : lowest (P * w * s) P = (w * s, 1) := by
  have hg : gcdI (P * w * s) P = P := by
    unfold gcdI
    rw [Nat.gcd_eq_right (by rw [Int.mul_assoc, Int.natAbs_mul]; exact Nat.dvd_mul_right _ _)]
    omega
  unfold lowest
  rw [hg, Int.ediv_self (by omega), Int.mul_assoc, Int.mul_ediv_cancel_left _ (by omega)]
/-- what is due of as many boxes as there are shares is whole -/
theorem whole_P {o : Od} (ho : o.ok) : wholeM o o.P = some ((o.ps.map fun p => (List.range o.ms.length).map fun j => worth o.ks j * p.s).flatten) := by
  have hP := (P_in ho).1
  have hd : dueF o o.P = ((o.ps.map fun p => (List.range o.ms.length).map fun j => worth o.ks j * p.s).flatten).map fun i => (i, (1 : Int)) := by
    rw [dueF, List.map_flatten, List.map_map]
    congr 1
    refine List.map_congr_left fun p _ => ?_
    rw [Function.comp_apply, List.map_map, dueP]
    refine List.map_congr_left fun j _ => ?_
    exact low_mul hP
  unfold wholeM
  rw [hd, if_pos (by rw [List.all_map]; simp), List.map_map]
  congr 1
  exact (List.map_congr_left fun i _ => rfl).trans (List.map_id _)
theorem ptOf_mem {m : Nat} {L : List Int} {p : Int → Prop} (h0 : p 0) (h : ∀ x ∈ L, p x) : p (ptOf m L).1 ∧ p (ptOf m L).2 := by
  have key : ∀ i, p ((0 :: L.take (L.length - m)).getD i 0) := fun i => by
    rw [List.getD_eq_getElem?_getD]
    cases e : (0 :: L.take (L.length - m))[i]? with
    | none => exact h0
    | some x =>
      rcases List.mem_cons.mp (List.mem_of_getElem? e) with rfl | hx
      · exact h0
      · exact h x (List.mem_of_mem_take hx)
  exact ⟨key _, key _⟩
theorem dp_in {o : Od} (ho : o.ok) : (0 ≤ o.dp.1 ∧ o.dp.1 ≤ 1000) ∧ (0 ≤ o.dp.2 ∧ o.dp.2 ≤ 1000) := by
  unfold Z.Od.dp
  rw [whole_P ho]
  refine ptOf_mem (p := fun x => 0 ≤ x ∧ x ≤ 1000) (by decide) fun x hx => ?_
  obtain ⟨l, hl, hx⟩ := List.mem_flatten.mp hx
  obtain ⟨p, hp, rfl⟩ := List.mem_map.mp hl
  obtain ⟨j, _, rfl⟩ := List.mem_map.mp hx
  have h1 := worth_bound ho.k2 ho.k1.2 j
  have h2 := (ho.p3 p hp).s
  have h3 : 0 ≤ worth o.ks j * p.s := Int.mul_nonneg (by omega) (by omega)
  have h4 : worth o.ks j * p.s ≤ 300 * 3 := Int.mul_le_mul (by omega) (by omega) (by omega) (by omega)
  omega
theorem dp_small {o : Od} (ho : o.ok) : smP o.dp := by
  have := dp_in ho
  exact ⟨⟨by omega, by omega⟩, by omega, by omega⟩
theorem c_small {m : Nat} {k : Kd} (h : Kd.ok m k) : sm k.c := by
  have := h.c
  exact ⟨by omega, by omega⟩
abbrev s_room : Stmt := topS 65
theorem sc_room : FnScope ["order", "reached", "direction", "shares", "due", "farthest", "kind", "far"] ["order", "reached", "direction"] (defScope s_room) := ⟨rfl, rfl, rfl, by decide +kernel, rfl, by decide +kernel, by decide +kernel⟩
def spRoom (K : PySem.W.Frag) (C : Addr) : Sp := fun vs H Q _ => ∃ (x : Addr) (o : Od) (a : Addr) (far : List Int) (v : V) (d : Pt), vs = [.ref x, .ref a, v] ∧ OrdAt K C H x o ∧ SqT K H a (far.map V.int) ∧ far.length = o.ks.length ∧ DT K H v (ptD d) ∧ ∀ H', Ex H H' → Q (.int (roomM o far d)) H'
theorem ok_room (B : Bl mg) (p_kinds : Prp P w K mg base 1 C "kinds" "_kinds") (p_measures : Prp P w K mg base 1 C "measures" "_measures") (c_all_shares : Cal P w K mg base 3 "all_shares" ["order"] (spAllSh K C)) (c_whole_due : Cal P w K mg base 5 "whole_due" ["order", "boxes"] (spWhole K C)) (c_point_of : Cal P w K mg base 1 "point_of" ["flat", "measures"] (spPtOf K)) (c_along : Cal P w K mg base 1 "_along" ["direction", "point"] (spAlong K)) (D0 : Df K mg "_room" s_room) : Cal P w K mg base 6 "_room" ["order", "reached", "direction"] (spRoom K C) := by
  refine D0.cal sc_room (fun _ _ _ _ _ _ us hl => match us, hl with | [_, _, _], _ => rfl) (fun vs H Q E h => ?_) (fun f cdv A outer s H vs Q E hr h => ?_)
  · obtain ⟨x, o, a, far, v, d, rfl, _⟩ := h
    rfl
  · obtain ⟨x, o, a, far, v, d, rfl, O, h1, h2, h3, q⟩ := h
    refine ⟨_, (pss_cons (ps_set (i := 3) sc_room.nd rfl (.inl rfl) (pe_cal c_all_shares hr (by decide) rfl (pa_cons (pv 0) pa_nil)))
      (pss_cons (ps_set (i := 4) sc_room.nd rfl (.inl rfl) (pe_cal c_point_of hr (by decide) rfl (pa_cons (pe_cal c_whole_due hr (by decide) rfl (pa_cons (pv 0) (pa_cons (pv 3) pa_nil))) (pa_cons (pe_callB (r := rLenQ K) call_len_seq (by rfl) B.len_ PySem.boot_len (pa_cons (pe_prp p_measures hr (by decide) (pv 0)) pa_nil)) pa_nil))))
      (pss_cons (ps_set (i := 5) sc_room.nd rfl (.inl rfl) (pe_callB (r := rSum K) (cr_sum rfl) (by rfl) B.sum_ (by decide +kernel) (pa_cons (pe_lc (own := [("kind", 6), ("far", 7)]) (g := gTup K 2 (gCons (gName 6) (gCons (gName 7) gNil))) rfl sc_room.nd (pi_zipA (by rfl) B.zip_ (pa_cons (pe_prp p_kinds hr (by decide) (pv 0)) (pa_cons (pv 1) pa_nil))) (blkOk_by (N := ["order", "reached", "direction", "shares", "due", "farthest", "kind", "far"]) (sc := defScope s_room) (by decide +kernel)) (fun _ _ _ _ _ => (by exact (pg_tup rfl (pgs_cons (pg_name (i := 6) sc_room.nd rfl (.inl rfl)) (pgs_cons (pg_name (i := 7) sc_room.nd rfl (.inl rfl)) pgs_nil))))) (fun _ _ _ _ _ => pts_nil) (fun _ _ _ _ _ => (pe_op op_mul (pe_ix (r := rIxT K) ix_tup (pv 6) pe_int (fun _ _ => rfl)) (pv 7)))) pa_nil)))
      (pss_one (ps_ret (pe_op op_sub (pe_op op_mul (pv 3) (pv 5)) (pe_cal c_along hr (by decide) rfl (pa_cons (pv 2) (pa_cons (pv 4) pa_nil))))))))), ?_⟩
    walk_at "rd"
    have ho := O.ok
    refine ⟨x, o, rfl, O, fun H1 e1 => ⟨x, o, o.P, rfl, O.up e1 id, P_pos ho, fun H2 e2 hw => ?_, fun b l H2 e2 hw hS => ?_⟩⟩
    · rw [whole_P ho] at hw
      cases hw
    · rw [whole_P ho] at hw
      cases hw
      have E2 := e1.trans e2
      have hm1 := ho.m1
      have hp1 := ho.p1
      have hk1 := ho.k1
      generalize hL : ((o.ps.map fun p => (List.range o.ms.length).map fun j => worth o.ks j * p.s).flatten) = L at hS
      have hLl : L.length = o.ps.length * o.ms.length := by
        rw [← hL, flat_len _ fun p _ => by rw [List.length_map, List.length_range]]
      have hdp : o.dp = ptOf o.ms.length L := by
        unfold Z.Od.dp
        rw [whole_P ho, hL]
        rfl
      have hnm : o.ps.length * o.ms.length ≤ 3 * 2 := Nat.mul_le_mul hp1.2 hm1.2
      have hnm2 : 2 * o.ms.length ≤ o.ps.length * o.ms.length := Nat.mul_le_mul hp1.1 (Nat.le_refl _)
      refine msr rfl (O.up E2 id) fun c hc => ⟨c, _, rfl, .inr hc, ?_⟩
      rw [List.length_map]
      refine ⟨b, L, o.ms.length, rfl, .inl hS, hm1.1, by omega, by omega, fun p3 H3 e3 hpt => ?_⟩
      rw [← hdp] at hpt
      have E3 := E2.trans e3
      have O3 := O.up E3 id
      obtain ⟨dx, ma, kc, pc, hx, hp⟩ := id O3
      obtain ⟨kx, k1, k2⟩ := hp.k
      have hkl := k2.lenM
      refine lcZT (a := kc) (b := a) (n := o.ks.length) (fun R h => fldO rfl hx (fl_k _ _ _ _) ⟨_, rfl, h⟩) k1 (E3.seqT h1) hkl (by rw [List.length_map, h2]) (by omega) (((o.ks.zip far).map fun q => q.1.c * q.2).map V.int) (by rw [List.length_map, List.length_map, List.length_zip, h2]; omega) ?_ ?_
      · intro i T y z w H4 Q' hy hz hw e4 fT q'
        obtain ⟨k, hk, hkd⟩ := k2.getM hy
        rw [List.getElem?_map] at hz
        cases hf : far[i]? with
        | none =>
          rw [hf] at hz
          cases hz
        | some fi =>
          rw [hf] at hz
          cases hz
          rw [List.map_map, List.getElem?_map, List.getElem?_zip_eq_some (z := (k, fi)) |>.mpr ⟨hk, hf⟩] at hw
          cases hw
          obtain ⟨p', b', rfl, h4, _⟩ := (hkd.mono e4.any).kd
          walk_at "rd"
          refine ⟨_, sqT fT, rfl, _, _, rfl, _, _, rfl, rfl, ?_⟩
          walk_at "rd"
          exact ⟨p', _, 1, _, rfl, rfl, h4, atI_nat (j := 1) rfl, k.c, rfl, .inl (c_small (ho.k2 k (List.mem_of_getElem? hk))), q' H4 .refl⟩
      · intro D H4 hD e4 f4
        refine ⟨D, _, rfl, sqL f4, o.P, rfl, _, rfl, .inl (P_small ho), ?_⟩
        exact ⟨v, _, d, o.dp, rfl, h3.mono (E3.trans e4).any, hpt.mono e4.any, dp_small ho, _, rfl, q H4 (E3.trans e4)⟩
end
end K11

namespace K11
open PySem PySem.Spec PyProof.Rows L2 Z ZE RZ
local macro_rules | `(tactic| walk_at "rd") => `(tactic| try simp only [cxOf, tSeq, tIfS, tRet, tRetN, tAsg, tDrop, tNext, tBreak, tCont, tNever, tPar, tPar3, tAug, gName, gTup, gCons, gNil, gSub, tVar, tC, tOp, tUn, tCB, tBM, tBM0, tCons, tNil, tTest, tB, tAnd, tOr, tNot, tAndV, tOrV, tNotV, tIf, tChain,
  tTup, tLst, tCall, tMeth, tSl, tPart, tNoPart, tM1, tFmt, tJs_nil, tJs_cons, tCKw, rI0, rI, rU, rEq, rNe, scal_ii, scal_ss, scal_bb, ipI, iStr, iTup, iList, iRng1, sFld, tFld, L2.start, List.getElem?_cons_zero, List.getElem?_cons_succ, List.set_cons_zero, List.set_cons_succ, Option.some.injEq, V.int.injEq, V.bl.injEq, V.str.injEq, V.ref.injEq,
  List.cons.injEq, exists_and_left, exists_eq_left', exists_eq_left, exists_eq_right, exists_eq_right', exists_eq', exists_eq, and_true, true_and, and_self, List.map_cons, List.map_nil, List.length_cons, List.length_nil, List.replicate_succ, List.replicate_zero, List.cons_append, List.nil_append, List.append_nil,
  Nat.add_sub_cancel, Nat.reduceAdd, Nat.reduceSub, if_true, if_false, ite_true, ite_false, Bool.not_true, Bool.not_false, Bool.true_eq_false, Bool.false_eq_true, reduceIte, reduceCtorEq, false_and, exists_false, or_false, false_or, decide_true, decide_false, wipe])

section
variable {P : Program} {w : World} {K : PySem.W.Frag} {mg : Str → Option Value} {base : Heap} {C : Addr}
theorem maxI_of {ns : List Int} {m : Int} (h1 : m ∈ ns) (h2 : ∀ y, y ∈ ns → y ≤ m) : m = maxI ns := by
  have key : ∀ (l : List Int) (a : Int), (a ≤ l.foldl max a ∧ ∀ y ∈ l, y ≤ l.foldl max a) ∧ (l.foldl max a = a ∨ l.foldl max a ∈ l) := fun l => by
    induction l with
    | nil => exact fun a => ⟨⟨Int.le_refl _, fun y hy => by cases hy⟩, .inl rfl⟩
    | cons x l ih =>
      intro a
      obtain ⟨⟨h1, h2⟩, h3⟩ := ih (max a x)
      rw [List.foldl_cons]
      refine ⟨⟨by omega, fun y hy => ?_⟩, ?_⟩
      · rcases List.mem_cons.mp hy with rfl | hy
        · omega
        · exact h2 y hy
      · rcases h3 with h3 | h3
        · rw [h3]
          by_cases hax : a ≤ x
          · exact .inr (by rw [Int.max_eq_right hax]; exact List.mem_cons_self ..)
          · exact .inl (by omega)
        · exact .inr (List.mem_cons_of_mem _ h3)
  cases ns with
  | nil => cases h1
  | cons x l =>
    obtain ⟨⟨k1, k2⟩, k3⟩ := key l x
    have a1 : m ≤ maxI (x :: l) := by
      rcases List.mem_cons.mp h1 with rfl | h
      · exact k1
      · exact k2 m h
    have a2 : maxI (x :: l) ≤ m := by
      rcases k3 with h | h
      · show l.foldl max x ≤ m
        rw [h]
        exact h2 x (List.mem_cons_self ..)
      · exact h2 _ (List.mem_cons_of_mem _ h)
    omega
theorem tkr_len (o : Od) (k : Kd) (l : List (Pn × Nat)) : (tkr o k l).length ≤ l.length := by
  rw [tkr, List.length_map]
  exact List.length_filter_le _ _
theorem pts_len {o : Od} (ho : o.ok) : (ptsO o).length = o.ks.length ∧ (ptsO o).length ≤ 4 ∧ ∀ r ∈ ptsO o, r.length ≤ 3 := by
  have h1 := ho.k1
  have h2 := ho.p1
  refine ⟨by rw [ptsO, List.length_map], by rw [ptsO, List.length_map]; omega, fun r hr => ?_⟩
  obtain ⟨k, _, rfl⟩ := List.mem_map.mp hr
  have := tkr_len o k o.ps.zipIdx
  rw [List.length_zipIdx] at this
  exact Nat.le_trans this h2.2
/-- the points of things are near -/
theorem pts_in {o : Od} (ho : o.ok) : ∀ r ∈ ptsO o, ∀ e ∈ r, (0 ≤ e.2.1 ∧ e.2.1 ≤ 6) ∧ (0 ≤ e.2.2 ∧ e.2.2 ≤ 6) := fun r hr e he => by
  obtain ⟨k, hk, rfl⟩ := List.mem_map.mp hr
  obtain ⟨q, _, rfl⟩ := List.mem_map.mp he
  have hw := (ho.k2 k hk).w
  refine ptOf_mem (p := fun x => 0 ≤ x ∧ x ≤ 6) (by decide) fun x hx => ?_
  obtain ⟨l, hl, hx⟩ := List.mem_flatten.mp hx
  obtain ⟨p, _, rfl⟩ := List.mem_map.mp hl
  obtain ⟨y, hy, rfl⟩ := List.mem_map.mp hx
  have := hw y hy
  split <;> omega
theorem pts_small {o : Od} (ho : o.ok) : ∀ r ∈ ptsO o, ∀ e ∈ r, smP e.2 := fun r hr e he => by
  have := pts_in ho r hr e he
  exact ⟨⟨by omega, by omega⟩, by omega, by omega⟩
theorem dirs_len {rows : List Row} (h : rows.length ≤ 4) (h3 : ∀ r ∈ rows, r.length ≤ 3) : (dirs rows).length ≤ 40 := by
  have a1 := flat_le (n := 9) (f := dirR) rows fun x hx => dirR_len (h3 x hx)
  have a4 : axes.length = 4 := rfl
  unfold dirs
  rw [List.length_append]
  omega
abbrev s_sides : Stmt := topS 59
theorem sc_sides : FnScope ["order", "rows", "found", "direction", "reached", "row", "person", "point"] ["order"] (defScope s_sides) := ⟨rfl, rfl, rfl, by decide +kernel, rfl, by decide +kernel, by decide +kernel⟩
def spSides (K : PySem.W.Frag) (C : Addr) : Sp := fun vs H Q _ => ∃ x o, vs = [.ref x] ∧ OrdAt K C H x o ∧ ¬ [] ∈ ptsO o ∧ ∀ l ys H', Ex H H' → H' l = some (.lst ys) → DTs K H' ys ((sidesM o).map sideD) → Q (.ref l) H'
theorem ok_sides (B : Bl mg) (c_points_of_things : Cal P w K mg base 4 "points_of_things" ["order"] (spPtsO K C)) (c_directions : Cal P w K mg base 1 "_directions" ["rows"] (spDirs K)) (c_along : Cal P w K mg base 1 "_along" ["direction", "point"] (spAlong K)) (c_room : Cal P w K mg base 6 "_room" ["order", "reached", "direction"] (spRoom K C)) (D0 : Df K mg "sides" s_sides) : Cal P w K mg base 7 "sides" ["order"] (spSides K C) := by
  refine D0.cal sc_sides (fun _ _ _ _ _ _ us hl => match us, hl with | [_], _ => rfl) (fun vs H Q E h => ?_) (fun f cdv A outer s H vs Q E hr h => ?_)
  · obtain ⟨x, o, rfl, _⟩ := h
    rfl
  · obtain ⟨x, o, rfl, O, hne, q⟩ := h
    refine ⟨_, (pss_cons (ps_set (i := 1) sc_sides.nd rfl (.inl rfl) (pe_cal c_points_of_things hr (by decide) rfl (pa_cons (pv 0) pa_nil)))
      (pss_cons (ps_set (i := 2) sc_sides.nd rfl (.inl rfl) (pe_lst pa_nil))
      (pss_cons (ps_for PassesOwn.never rfl (pi_list (pe_cal c_directions hr (by decide) rfl (pa_cons (pv 1) pa_nil))) (pg_name (i := 3) sc_sides.nd rfl (.inr rfl)) (pss_cons (ps_set (i := 4) sc_sides.nd rfl (.inl rfl) (pe_callTy (r := rTupOf K) call_tuple_of (by rfl) B.tuple_ (by decide +kernel) (pa_cons (pe_lc (own := [("row", 5)]) (g := gName 5) rfl sc_sides.nd (pi_list (pv 1)) (blkOk_by (N := ["order", "rows", "found", "direction", "reached", "row", "person", "point"]) (sc := defScope s_sides) (by decide +kernel)) (fun _ _ _ _ _ => (pg_name (i := 5) sc_sides.nd rfl (.inl rfl))) (fun _ _ _ _ _ => pts_nil) (fun _ _ _ _ _ => (pe_callB (r := rMax K) (cr_max rfl) (by rfl) B.max_ (by decide +kernel) (pa_cons (pe_lc (own := [("person", 6), ("point", 7)]) (g := gTup K 2 (gCons (gName 6) (gCons (gName 7) gNil))) rfl sc_sides.nd (pi_tupK (K := K) (by rfl) (pv 5)) (blkOk_in (N := ["order", "rows", "found", "direction", "reached", "row", "person", "point"]) (by decide +kernel)) (fun _ _ _ _ _ => (by exact (pg_tup rfl (pgs_cons (pg_name (i := 6) sc_sides.nd rfl (.inl rfl)) (pgs_cons (pg_name (i := 7) sc_sides.nd rfl (.inl rfl)) pgs_nil))))) (fun _ _ _ _ _ => pts_nil) (fun _ _ _ _ _ => (pe_cal c_along hr (by decide) rfl (pa_cons (pv 3) (pa_cons (pv 7) pa_nil))))) pa_nil)))) pa_nil)))
      (pss_one (ps_expr (pe_bm PySem.F.plainAttrs_list PySem.F.slot_list_append PySem.F.type_list_append mt_append (pv 2) (pa_cons (pe_tup (pa_cons (pv 3) (pa_cons (pv 4) (pa_cons (pe_cal c_room hr (by decide) rfl (pa_cons (pv 0) (pa_cons (pv 4) (pa_cons (pv 3) pa_nil)))) pa_nil)))) pa_nil))))))
      (pss_one (ps_ret (pv 2)))))), ?_⟩
    walk_at "rd"
    refine ⟨x, o, rfl, O, fun r rs H1 e1 _ fr hrs => ⟨by decide, fun L hL => ?_⟩⟩
    have e2 : Ex H1 (upd H1 L (.lst [])) := .new hL
    have f2 := upd_same (H := H1) (a := L) (o := .lst [])
    have fr2 := e2.get fr
    have hrs2 := hrs.mono e2.any
    generalize upd H1 L (.lst []) = H2 at e2 f2 fr2 hrs2 ⊢
    have ho := O.ok
    obtain ⟨n1, n2, n3⟩ := pts_len ho
    have hnL : H1 L = none := hL
    have hpl : (dirs (ptsO o)).length ≤ 40 := dirs_len n2 n3
    have hrl := hrs.lenM
    have neL : ∀ {p : Addr}, H2 p = none → p ≠ L := fun hp z => by
      rw [z, f2] at hp
      cases hp
    have e12 : Ex H1 H2 := e2
    refine forLm (fun p xs H3 => Ex H2 H3 ∧ H3 p = some (.lst xs) ∧ DTs K H3 xs ((dirs (ptsO o)).map ptD) ∧ p ≠ L) (fun R h => ⟨_, rfl, r, rs, ptsO o, rfl, fr2, hrs2, n2, n3, fun l ys H3 e3 hl f3 d3 => h l ys H3 ⟨e3, f3, d3, neL hl⟩⟩) (fun p xs H3 c => sqL c.2.1)
      (fun p xs i σ' H' => ∃ (y3 y4 y5 y6 y7 : Option V) (ys : List V), σ' = [some (.ref x), some (.ref r), some (.ref L), y3, y4, y5, y6, y7] ∧ Ex H1 H' ∧ H' p = some (.lst xs) ∧ DTs K H' xs ((dirs (ptsO o)).map ptD) ∧ p ≠ L ∧ H' L = some (.lst ys) ∧ DTs K H' ys ((((dirs (ptsO o)).take i).map (sideM o)).map sideD))
      (fun p xs H3 c => ⟨_, _, _, _, _, [], rfl, e2.trans c.1, c.2.1, c.2.2.1, c.2.2.2, c.1.get f2, .nil⟩) (fun p xs i σ' H' ⟨_, _, _, _, _, _, _, _, f, _⟩ => sqL f) ?_ ?_
    · rintro p xs i y σ' H3 hy ⟨y3, y4, y5, y6, y7, ys, rfl, e3, fp, hxs, hpL, fL, hys⟩
      obtain ⟨d, hd, hyd⟩ := hxs.getM hy
      have htk : (dirs (ptsO o)).take (i + 1) = (dirs (ptsO o)).take i ++ [d] := by rw [List.take_add_one, hd]; rfl
      have hi : i < (dirs (ptsO o)).length := (List.getElem?_eq_some_iff.mp hd).1
      walk_at "rd"
      refine lcLf (a := r) (xs := rs) (fun R h => ⟨_, rfl, h⟩) (sqL (e3.get fr)) (by omega) ((farM (ptsO o) d).map V.int) (by rw [List.length_map, farM, List.length_map, hrl]) ?_ ?_
      · intro j z zv H4 Q' hz hzv e4 q'
        obtain ⟨row, hrow, hzd⟩ := hrs.getM hz
        rw [farM, List.map_map, List.getElem?_map, hrow] at hzv
        cases hzv
        have hrm := List.mem_of_getElem? hrow
        obtain ⟨b, bs, rfl, S, s⟩ := dtT (hzd.mono (e3.trans e4).any)
        have hbl := s.lenM
        have h3 := n3 row hrm
        walk_at "rd"
        refine lcTf (a := b) (xs := bs) (fun R h => ⟨_, rfl, h⟩) S (by omega) (row.map fun e => V.int (along d e.2)) (by rw [List.length_map, hbl]) ?_ ?_
        · intro l u uv H5 Q2 hu huv e5 q2
          obtain ⟨e, he, hed⟩ := s.getM hu
          rw [List.getElem?_map, he] at huv
          cases huv
          obtain ⟨c, cs, rfl, S2, s2⟩ := dtT (hed.mono e5.any)
          cases s2 with
          | cons z1 s2 => cases s2 with
            | cons z2 s2 =>
              cases s2
              cases z1
              walk_at "rd"
              refine ⟨_, S2, rfl, _, _, rfl, _, _, rfl, rfl, ?_⟩
              walk_at "rd"
              exact ⟨y, _, d, e.2, rfl, hyd.mono (e4.trans e5).any, z2, pts_small ho row hrm e (List.mem_of_getElem? he), q2 H5 .refl⟩
        · intro D2 H5 hD2 e5 f5
          have hne2 : row ≠ [] := fun z => hne (z ▸ hrm)
          refine ⟨D2, row.map fun e => along d e.2, rfl, sqL (by rw [f5, List.map_map]; rfl), by rw [List.length_map]; exact List.length_pos_iff.mpr hne2, fun m hm1 hm2 => ?_⟩
          rw [maxI_of hm1 hm2]
          exact q' H5 e5
      · intro D H4 hD e4 f4
        refine ⟨D, _, rfl, .inl ⟨sqL f4, fun T hT => ?_⟩⟩
        have e5 : Ex H4 (upd H4 T (.tup ((farM (ptsO o) d).map V.int))) := .new hT
        have f5 := upd_same (H := H4) (a := T) (o := .tup ((farM (ptsO o) d).map V.int))
        generalize upd H4 T (.tup ((farM (ptsO o) d).map V.int)) = H5 at e5 f5 ⊢
        have E5 := e4.trans e5
        have hyd5 := hyd.mono E5.any
        refine ⟨.inl ⟨rfl, _, sqL (E5.get fL)⟩, x, o, T, farM (ptsO o) d, y, d, rfl, O.up ((e1.trans e3).trans E5) id, sqT f5, by rw [farM, List.length_map, n1], hyd5, fun H6 e6 => ⟨by decide, fun T2 hT2 => ?_⟩⟩
        have e7 : Ex H6 (upd H6 T2 (.tup [y, .ref T, .int (roomM o (farM (ptsO o) d) d)])) := .new hT2
        have f7 := upd_same (H := H6) (a := T2) (o := .tup [y, .ref T, .int (roomM o (farM (ptsO o) d) d)])
        generalize upd H6 T2 (.tup [y, .ref T, .int (roomM o (farM (ptsO o) d) d)]) = H7 at e7 f7 ⊢
        have E7 := E5.trans (e6.trans e7)
        have fL7 := E7.get fL
        have hyl := hys.lenM
        rw [List.length_map, List.length_take] at hyl
        have gu : Gr any H7 (upd H7 L (.lst (ys ++ [V.ref T2]))) := Gr.refl.put fL7 (.inr trivial)
        refine ⟨L, _, _, rfl, rfl, fL7, smallt (by omega), _, _, _, _, _, ⟨rfl, rfl, rfl, rfl, rfl⟩, (e3.trans E7).put fL7 (.inl hnL), ?_, hxs.mono (E7.any.trans gu), hpL, _, upd_same, ?_⟩
        · rw [upd_ne hpL]
          exact E7.get fp
        · rw [htk, List.map_append, List.map_append]
          refine dtsSnoc (hys.mono (E7.any.trans gu)) ((DT.tup (sqT f7) (.cons (hyd5.mono (e6.trans e7).any) (.cons (.tup (sqT ((e6.trans e7).get f5)) ?_) (.cons (.int _) .nil)))).mono gu)
          exact dtsInts _
    · rintro p xs σ' H3 ⟨y3, y4, y5, y6, y7, ys, rfl, e3, fp, hxs, hpL, fL, hys⟩
      walk_at "rd"
      have hxl := hxs.lenM
      rw [hxl, List.take_length] at hys
      exact q L ys H3 (e1.trans e3) fL hys
end
end K11

namespace K11
open PySem PySem.Spec PyProof.Rows L2 Z ZE RZ
local macro_rules | `(tactic| walk_at "rd") => `(tactic| try simp only [cxOf, tSeq, tIfS, tRet, tRetN, tAsg, tDrop, tNext, tBreak, tCont, tNever, tPar, tPar3, tAug, gName, gTup, gCons, gNil, gSub, tVar, tC, tOp, tUn, tCB, tBM, tBM0, tCons, tNil, tTest, tB, tAnd, tOr, tNot, tAndV, tOrV, tNotV, tIf, tChain,
  tTup, tLst, tCall, tMeth, tSl, tPart, tNoPart, tM1, tFmt, tJs_nil, tJs_cons, tCKw, rI0, rI, rU, rEq, rNe, scal_ii, scal_ss, scal_bb, ipI, iStr, iTup, iList, iRng1, sFld, tFld, L2.start, List.getElem?_cons_zero, List.getElem?_cons_succ, List.set_cons_zero, List.set_cons_succ, Option.some.injEq, V.int.injEq, V.bl.injEq, V.str.injEq, V.ref.injEq,
  List.cons.injEq, exists_and_left, exists_eq_left', exists_eq_left, exists_eq_right, exists_eq_right', exists_eq', exists_eq, and_true, true_and, and_self, List.map_cons, List.map_nil, List.length_cons, List.length_nil, List.replicate_succ, List.replicate_zero, List.cons_append, List.nil_append, List.append_nil,
  Nat.add_sub_cancel, Nat.reduceAdd, Nat.reduceSub, if_true, if_false, ite_true, ite_false, Bool.not_true, Bool.not_false, Bool.true_eq_false, Bool.false_eq_true, reduceIte, reduceCtorEq, false_and, exists_false, or_false, false_or, decide_true, decide_false, wipe])

section
variable {P : Program} {w : World} {K : PySem.W.Frag} {mg : Str → Option Value} {base : Heap} {C : Addr}
/-- rows of takers as they come of an order: none is empty, all points near -/
structure ChOk (ch : List Row) : Prop where
  l : ch.length ≤ 4
  r : ∀ r ∈ ch, r ≠ [] ∧ r.length ≤ 3
  p : ∀ r ∈ ch, ∀ e ∈ r, (0 ≤ e.2.1 ∧ e.2.1 ≤ 6) ∧ (0 ≤ e.2.2 ∧ e.2.2 ≤ 6)
theorem fmod_lt {a x : Int} (h : x ≠ 0) : (a - a.fdiv x * x).natAbs < x.natAbs := by
  have e : a - a.fdiv x * x = a.fmod x := by
    have := Int.mul_fdiv_add_fmod a x
    rw [Int.mul_comm] at this
    omega
  rw [e]
  by_cases hx : 0 < x
  · have h1 := Int.fmod_nonneg_of_pos a hx
    have h2 := Int.fmod_lt_of_pos a hx
    omega
  · have h1 : x < 0 := by omega
    have e2 : a.fmod x = -((-a).fmod (-x)) := by rw [Int.neg_fmod_neg]; omega
    have h2 := Int.fmod_nonneg_of_pos (-a) (show 0 < -x by omega)
    have h3 := Int.fmod_lt_of_pos (-a) (show 0 < -x by omega)
    omega
theorem fdiv_le {a x : Int} (h : x ≠ 0) (ha : a.natAbs ≤ 6) (hx : x.natAbs ≤ 6) : (a.fdiv x).natAbs ≤ 13 := by
  have h1 := fmod_lt (a := a) h
  have h2 : (a.fdiv x * x).natAbs ≤ 12 := by omega
  rw [Int.natAbs_mul] at h2
  have h3 : 1 ≤ x.natAbs := by omega
  have h4 : (a.fdiv x).natAbs * 1 ≤ (a.fdiv x).natAbs * x.natAbs := Nat.mul_le_mul (Nat.le_refl _) h3
  omega
theorem euF_a : ∀ (n : Nat) {a u x y : Int}, a.natAbs ≤ 6 → x.natAbs ≤ 6 → (euF n a u x y).1.natAbs ≤ 6
  | 0, _, _, _, _, ha, _ => ha
  | n + 1, a, u, x, y, ha, hx => by
    unfold euF
    split
    · exact ha
    · rename_i h
      have := fmod_lt (a := a) h
      exact euF_a n hx (by omega)
def mu8 (σ : L2.St) : Nat := match σ[8]? with
  | some (some (V.int x)) => x.natAbs
  | _ => 0
def start6 (st : Pt) : Prop := (0 ≤ st.1 ∧ st.1 ≤ 6) ∧ (0 ≤ st.2 ∧ st.2 ≤ 6)
theorem stepsF_a {st : Pt} (hst : start6 st) : ∀ {r : Row} {s : Int × Int × Int}, s.1.natAbs ≤ 6 → (∀ e ∈ r, (0 ≤ e.2.1 ∧ e.2.1 ≤ 6) ∧ (0 ≤ e.2.2 ∧ e.2.2 ≤ 6)) → (stepsF st r s).1.natAbs ≤ 6
  | [], _, hs, _ => hs
  | e :: r, s, hs, h => by
    have h1 := h e (List.mem_cons_self ..)
    have h2 := hst.1
    exact stepsF_a hst (r := r) (euF_a 7 hs (by show (e.2.1 - st.1).natAbs ≤ 6; omega)) fun x hx => h x (List.mem_cons_of_mem _ hx)
theorem start_in {ch : List Row} (h : ChOk ch) {r : Row} (hr : r ∈ ch) : start6 (start r) ∧ ∃ i, ∃ r', r = (i, start r) :: r' := by
  have h1 := (h.r r hr).1
  cases r with
  | nil => exact absurd rfl h1
  | cons e r' => exact ⟨h.p _ hr e (List.mem_cons_self ..), e.1, r', rfl⟩
theorem two_a {ch : List Row} (h : ChOk ch) : ∀ (l : List Row) (s : Int × Int × Int), (∀ r ∈ l, r ∈ ch) → s.1.natAbs ≤ 6 → (l.foldl (fun s r => stepsF (start r) r s) s).1.natAbs ≤ 6
  | [], _, _, hs => hs
  | r :: l, s, hl, hs => two_a h l _ (fun x hx => hl x (List.mem_cons_of_mem _ hx)) (stepsF_a (start_in h (hl r (List.mem_cons_self ..))).1 hs (h.p r (hl r (List.mem_cons_self ..))))
abbrev s_two_steps : Stmt := topS 67
theorem sc_two_steps : FnScope ["chances", "across", "up", "upright", "row", "start", "_", "point", "x", "y", "many"] ["chances"] (defScope s_two_steps) := ⟨rfl, rfl, rfl, by decide +kernel, rfl, by decide +kernel, by decide +kernel⟩
def spTwo (K : PySem.W.Frag) : Sp := fun vs H Q _ => ∃ v ch, vs = [v] ∧ DT K H v (chD ch) ∧ ChOk ch ∧ ∀ t H', Ex H H' → DT K H' t (.tup [ptD ((twoM ch).1, (twoM ch).2.1), .int (twoM ch).2.2]) → Q t H'
theorem ok_two_steps (g_gcd : mg "gcd" = some (.builtin "math.gcd")) (D0 : Df K mg "_two_steps" s_two_steps) : Cal P w K mg base 1 "_two_steps" ["chances"] (spTwo K) := by
  refine D0.cal sc_two_steps (fun _ _ _ _ _ _ us hl => match us, hl with | [_], _ => rfl) (fun vs H Q E h => ?_) (fun f cdv A outer s H vs Q E hr h => ?_)
  · obtain ⟨v, ch, rfl, _⟩ := h
    rfl
  · obtain ⟨v, ch, rfl, hv, hc, q⟩ := h
    refine ⟨_, (pss_cons (ps_asg (pe_tup (pa_cons pe_int (pa_cons pe_int (pa_cons pe_int pa_nil)))) (pg_tup rfl (pgs_cons (pg_name (i := 1) sc_two_steps.nd rfl (.inl rfl)) (pgs_cons (pg_name (i := 2) sc_two_steps.nd rfl (.inl rfl)) (pgs_cons (pg_name (i := 3) sc_two_steps.nd rfl (.inl rfl)) pgs_nil)))))
      (pss_cons (ps_for PassesOwn.never rfl (pi_tup (pv 0)) (pg_name (i := 4) sc_two_steps.nd rfl (.inl rfl)) (pss_cons (ps_set (i := 5) sc_two_steps.nd rfl (.inl rfl) (pe_ix (r := rIxT K) ix_tup (pe_ix (r := rIxT K) ix_tup (pv 4) pe_int (fun _ _ => rfl)) pe_int (fun _ _ => rfl)))
      (pss_one (ps_for PassesOwn.never rfl (pi_tup (pv 4)) (pg_tup rfl (pgs_cons (pg_name (i := 6) sc_two_steps.nd rfl (.inl rfl)) (pgs_cons (pg_name (i := 7) sc_two_steps.nd rfl (.inl rfl)) pgs_nil))) (pss_cons (ps_par (i := 8) (j := 9) rfl sc_two_steps.nd rfl rfl (by decide) rfl rfl (pa_cons (pe_op op_sub (pe_ix (r := rIxT K) ix_tup (pv 7) pe_int (fun _ _ => rfl)) (pe_ix (r := rIxT K) ix_tup (pv 5) pe_int (fun _ _ => rfl))) (pa_cons (pe_op op_sub (pe_ix (r := rIxT K) ix_tup (pv 7) pe_int (fun _ _ => rfl)) (pe_ix (r := rIxT K) ix_tup (pv 5) pe_int (fun _ _ => rfl))) pa_nil)) (by rfl))
      (pss_cons (ps_while PassesOwn.never (pt_cmpR op_ne (pv 8) pe_int (nomark _)) (pss_cons (ps_set (i := 10) sc_two_steps.nd rfl (.inl rfl) (pe_op op_fdivN (pv 1) (pv 8)))
      (pss_one (ps_asg (pe_tup (pa_cons (pv 8) (pa_cons (pv 9) (pa_cons (pe_op op_sub (pv 1) (pe_op op_mul (pv 10) (pv 8))) (pa_cons (pe_op op_sub (pv 2) (pe_op op_mul (pv 10) (pv 9))) pa_nil))))) (pg_tup rfl (pgs_cons (pg_name (i := 1) sc_two_steps.nd rfl (.inl rfl)) (pgs_cons (pg_name (i := 2) sc_two_steps.nd rfl (.inl rfl)) (pgs_cons (pg_name (i := 8) sc_two_steps.nd rfl (.inl rfl)) (pgs_cons (pg_name (i := 9) sc_two_steps.nd rfl (.inl rfl)) pgs_nil)))))))))
      (pss_one (ps_set (i := 3) sc_two_steps.nd rfl (.inl rfl) (pe_callBfun cr_gcd (by rfl) g_gcd (pa_cons (pv 3) (pa_cons (pv 9) pa_nil)))))))))))
      (pss_one (ps_ret (pe_tup (pa_cons (pe_tup (pa_cons (pv 1) (pa_cons (pv 2) pa_nil))) (pa_cons (pv 3) pa_nil))))))), ?_⟩
    walk_at "rd"
    obtain ⟨a, xs, rfl, S, s0⟩ := dtT hv
    have hxl := s0.lenM
    refine ⟨by decide, fun p hp => ?_⟩
    have e1 : Ex H (upd H p (.tup [.int 0, .int 0, .int 0])) := .new hp
    refine ⟨_, sqT upd_same, rfl, _, _, rfl, _, _, rfl, _, _, rfl, rfl, ?_⟩
    generalize upd H p (.tup [.int 0, .int 0, .int 0]) = H1 at e1 ⊢
    refine forTp (a := a) (xs := xs) (fun R h => ⟨_, rfl, h⟩) (e1.seqT S) (fun i σ' H' => ∃ (y4 y5 y6 y7 y8 y9 y10 : Option V) (t : Int × Int × Int), σ' = [some (.ref a), some (.int t.1), some (.int t.2.1), some (.int t.2.2), y4, y5, y6, y7, y8, y9, y10] ∧ Ex H H' ∧ t = (ch.take i).foldl (fun s r => stepsF (start r) r s) (0, 0, 0)) ⟨_, _, _, _, _, _, _, (0, 0, 0), rfl, e1, rfl⟩ (fun i σ' H' ⟨_, _, _, _, _, _, _, _, _, e, _⟩ => e.seqT S) ?_ ?_
    · rintro i y σ' H' hy ⟨y4, y5, y6, y7, y8, y9, y10, t, rfl, e, ht⟩
      obtain ⟨r, hr, hrd⟩ := s0.getM hy
      have hrm := List.mem_of_getElem? hr
      obtain ⟨hst, i0, r0, hr0⟩ := start_in hc hrm
      have hta : t.1.natAbs ≤ 6 := by
        rw [ht]
        exact two_a hc _ _ (fun x hx => List.mem_of_mem_take hx) (by decide)
      have htk : (ch.take (i + 1)).foldl (fun s r => stepsF (start r) r s) (0, 0, 0) = stepsF (start r) r t := by
        rw [List.take_add_one, hr, Option.toList_some, List.foldl_append, ← ht]
        rfl
      obtain ⟨b, rs, rfl, Sr, sr⟩ := dtT hrd
      have hrl := sr.lenM
      walk_at "rd"
      have h0 : ∃ v rs', rs = v :: rs' ∧ DT K H v (tkD (i0, start r)) := by
        rw [hr0] at sr
        cases sr with
        | cons h1 h2 => exact ⟨_, _, rfl, h1⟩
      obtain ⟨v0, rs', hrs, hv0⟩ := h0
      obtain ⟨c, cs, rfl, Sc, sc⟩ := dtT hv0
      cases sc with
      | cons z1 sc => cases sc with
        | cons z2 sc =>
          cases sc
          obtain ⟨ps, rfl, SP⟩ := DT.pair z2
          refine ⟨b, rs, 0, _, rfl, rfl, e.seqT Sr, atI_nat (j := 0) (by rw [hrs]; rfl), c, _, 1, _, rfl, rfl, e.seqT Sc, atI_nat (j := 1) rfl, ?_⟩
          refine forTp (a := b) (xs := rs) (fun R h => ⟨_, rfl, h⟩) (e.seqT Sr) (fun j σ' H' => ∃ (y6 y7 y8 y9 y10 : Option V) (u : Int × Int × Int), σ' = [some (.ref a), some (.int u.1), some (.int u.2.1), some (.int u.2.2), some (.ref b), some (.ref ps), y6, y7, y8, y9, y10] ∧ Ex H H' ∧ u = stepsF (start r) (r.take j) t) ⟨_, _, _, _, _, t, rfl, e, rfl⟩ (fun j σ' H' ⟨_, _, _, _, _, _, _, e, _⟩ => e.seqT Sr) ?_ ?_
          · rintro j y σ' H2 hy2 ⟨y6, y7, y8, y9, y10, u, rfl, e2, hu⟩
            obtain ⟨el, hel, held⟩ := sr.getM hy2
            have helm := List.mem_of_getElem? hel
            have hpi := hc.p r hrm el helm
            have hua : u.1.natAbs ≤ 6 := by
              rw [hu]
              exact stepsF_a hst hta fun x hx => hc.p r hrm x (List.mem_of_mem_take hx)
            have hstep : stepsF (start r) (r.take (j + 1)) t = stp u (el.2.1 - (start r).1, el.2.2 - (start r).2) := by
              unfold stepsF at hu ⊢
              rw [List.take_add_one, hel, Option.toList_some, List.foldl_append, ← hu]
              rfl
            obtain ⟨d, ds, rfl, Sd, sd⟩ := dtT held
            cases sd with
            | cons w1 sd => cases sd with
              | cons w2 sd =>
                cases sd
                cases w1
                obtain ⟨pb, rfl, SB⟩ := DT.pair w2
                walk_at "rd"
                refine ⟨_, e2.seqT Sd, rfl, _, _, rfl, _, _, rfl, rfl, ?_⟩
                walk_at "rd"
                have A0 := e2.seqT SB
                have S0 := e2.seqT SP
                have hst1 := hst.1
                have hst2 := hst.2
                refine ⟨pb, _, 0, _, rfl, rfl, A0, atI_nat (j := 0) rfl, ps, _, 0, _, rfl, rfl, S0, atI_nat (j := 0) rfl, _, rfl, _, rfl, pb, _, 1, _, rfl, rfl, A0, atI_nat (j := 1) rfl, ps, _, 1, _, rfl, rfl, S0, atI_nat (j := 1) rfl, _, rfl, _, rfl, _, _, ⟨rfl, rfl⟩, ?_⟩
                show tWhile _ _ _ [some (.ref a), some (.int u.1), some (.int u.2.1), some (.int u.2.2), some (.ref b), some (.ref ps), some (.int (el.1 : Int)), some (.ref pb), some (.int (el.2.1 - (start r).1)), some (.int (el.2.2 - (start r).2)), y10] H2
                refine while_by (fun σ' H' => ∃ (n : Nat) (a1 u1 x1 yy : Int) (y10 : Option V), σ' = [some (.ref a), some (.int a1), some (.int u1), some (.int u.2.2), some (.ref b), some (.ref ps), some (.int (el.1 : Int)), some (.ref pb), some (.int x1), some (.int yy), y10] ∧ Ex H H' ∧ x1.natAbs < n ∧ a1.natAbs ≤ 6 ∧ x1.natAbs ≤ 6 ∧ euF n a1 u1 x1 yy = euF 7 u.1 u.2.1 (el.2.1 - (start r).1) (el.2.2 - (start r).2)) (fun σ' _ => mu8 σ') ⟨7, u.1, u.2.1, _, _, y10, rfl, e2, by omega, hua, by omega, rfl⟩ ?_ ?_
                · rintro σ' H3 ⟨n, a1, u1, x1, yy, y10, rfl, e3, hn, ha1, hx1, heu⟩
                  walk_at "rd"
                  obtain ⟨k, rfl⟩ : ∃ k, n = k + 1 := ⟨n - 1, by omega⟩
                  by_cases h0 : x1 = 0
                  · rw [decide_eq_true h0]
                    subst h0
                    have he0 : euF (k + 1) a1 u1 0 yy = (a1, u1, yy) := by rw [euF, if_pos rfl]
                    rw [he0] at heu
                    refine iteF ⟨u.2.2, yy, rfl, ?_⟩
                    refine ⟨_, _, _, _, _, (a1, u1, gcdI u.2.2 yy), ⟨rfl, rfl, rfl, rfl, rfl, rfl, rfl, rfl⟩, e3, ?_⟩
                    rw [hstep, stp, ← heu]
                  · rw [decide_eq_false h0]
                    have fm := fmod_lt (a := a1) h0
                    have hf := fdiv_le h0 ha1 hx1
                    have heu2 := heu
                    rw [euF, if_neg h0] at heu2
                    refine iteT ⟨⟨h0, by omega⟩, .inr ⟨by omega, by omega⟩, .inl ⟨by omega, by omega⟩, by decide, fun p6 hp6 => ⟨_, sqT upd_same, rfl, _, _, rfl, _, _, rfl, _, _, rfl, _, _, rfl, rfl, ⟨k, x1, yy, _, _, _, ⟨rfl, rfl, rfl, rfl, rfl⟩, e3.trans (.new hp6), by omega, hx1, by omega, heu2⟩, ?_⟩⟩
                    exact fm
                · intro σ H Q Q' k h
                  obtain ⟨v, h1, h2, b, h3, h4⟩ := h
                  exact ⟨v, h1, h2, b, h3, k _ _ h4⟩
          · rintro σ' H2 ⟨y6, y7, y8, y9, y10, u, rfl, e2, hu⟩
            rw [hrl, List.take_length] at hu
            exact ⟨_, _, _, _, _, _, _, u, rfl, e2, hu.trans htk.symm⟩
    · rintro σ' H' ⟨y4, y5, y6, y7, y8, y9, y10, t, rfl, e, ht⟩
      walk_at "rd"
      rw [hxl, List.take_length] at ht
      refine ⟨by decide, fun p2 hp2 => ⟨by decide, fun p3 hp3 => ?_⟩⟩
      have e2 : Ex H' (upd H' p2 (.tup [.int t.1, .int t.2.1])) := .new hp2
      have e3 := e2.trans (Gr.new (m := nob) (o := .tup [.ref p2, .int t.2.2]) hp3)
      have f2 := (Gr.new (m := nob) (o := .tup [.ref p2, .int t.2.2]) hp3).get (upd_same (H := H') (a := p2) (o := .tup [.int t.1, .int t.2.1]))
      refine q (.ref p3) _ (e.trans e3) ?_
      have ht' : t = twoM ch := ht
      rw [← ht']
      exact .tup (sqT upd_same) (.cons (.tup (sqT f2) (.cons (.int _) (.cons (.int _) .nil))) (.cons (.int _) .nil))
end
end K11

namespace K11
open PySem PySem.Spec PyProof.Rows L2 Z ZE RZ
local macro_rules | `(tactic| walk_at "rd") => `(tactic| try simp only [cxOf, tSeq, tIfS, tRet, tRetN, tAsg, tDrop, tNext, tBreak, tCont, tNever, tPar, tPar3, tAug, gName, gTup, gCons, gNil, gSub, tVar, tC, tOp, tUn, tCB, tBM, tBM0, tCons, tNil, tTest, tB, tAnd, tOr, tNot, tAndV, tOrV, tNotV, tIf, tChain,
  tTup, tLst, tCall, tMeth, tSl, tPart, tNoPart, tM1, tFmt, tJs_nil, tJs_cons, tCKw, rI0, rI, rU, rEq, rNe, scal_ii, scal_ss, scal_bb, ipI, iStr, iTup, iList, iRng1, sFld, tFld, L2.start, List.getElem?_cons_zero, List.getElem?_cons_succ, List.set_cons_zero, List.set_cons_succ, Option.some.injEq, V.int.injEq, V.bl.injEq, V.str.injEq, V.ref.injEq,
  List.cons.injEq, exists_and_left, exists_eq_left', exists_eq_left, exists_eq_right, exists_eq_right', exists_eq', exists_eq, and_true, true_and, and_self, List.map_cons, List.map_nil, List.length_cons, List.length_nil, List.replicate_succ, List.replicate_zero, List.cons_append, List.nil_append, List.append_nil,
  Nat.add_sub_cancel, Nat.reduceAdd, Nat.reduceSub, if_true, if_false, ite_true, ite_false, Bool.not_true, Bool.not_false, Bool.true_eq_false, Bool.false_eq_true, reduceIte, reduceCtorEq, false_and, exists_false, or_false, false_or, decide_true, decide_false, wipe])

local macro_rules | `(tactic| walk_at "rdi") => `(tactic| try simp only [cxOf, tSeq, tRet, tRetN, tAsg, tDrop, tNext, tBreak, tCont, tNever, tPar, tPar3, tAug, gName, gTup, gCons, gNil, gSub, tVar, tC, tOp, tUn, tCB, tBM, tBM0, tCons, tNil, tTest, tB, tAnd, tOr, tNot, tAndV, tOrV, tNotV, tChain,
  tTup, tLst, tCall, tMeth, tSl, tPart, tNoPart, tM1, tFmt, tJs_nil, tJs_cons, tCKw, rI0, rI, rU, rEq, rNe, scal_ii, scal_ss, scal_bb, ipI, iStr, iTup, iList, iRng1, sFld, tFld, L2.start, List.getElem?_cons_zero, List.getElem?_cons_succ, List.set_cons_zero, List.set_cons_succ, Option.some.injEq, V.int.injEq, V.bl.injEq, V.str.injEq, V.ref.injEq,
  List.cons.injEq, exists_and_left, exists_eq_left', exists_eq_left, exists_eq_right, exists_eq_right', exists_eq', exists_eq, and_true, true_and, and_self, List.map_cons, List.map_nil, List.length_cons, List.length_nil, List.replicate_succ, List.replicate_zero, List.cons_append, List.nil_append, List.append_nil,
  Nat.add_sub_cancel, Nat.reduceAdd, Nat.reduceSub, if_true, if_false, ite_true, ite_false, Bool.not_true, Bool.not_false, Bool.true_eq_false, Bool.false_eq_true, reduceIte, reduceCtorEq, false_and, exists_false, or_false, false_or, decide_true, decide_false, wipe])

section
variable {P : Program} {w : World} {K : PySem.W.Frag} {mg : Str → Option Value} {base : Heap} {C : Addr}
theorem tIfS_use {c : L2.TT} {t e : TS} {D : Ends} {σ : L2.St} {H : Hp} (cond : L2.St → Hp → Prop) (h : ∀ N : L2.St → Hp → Prop, (∀ σ' H', cond σ' H' → N σ' H') → tIfS c t e { D with nx := N } σ H) (k : ∀ σ' H', cond σ' H' → D.nx σ' H') : tIfS c t e D σ H := h D.nx k
def lineD (l : Pt × Int) : D := .tup [ptD l.1, .int l.2]
abbrev s_steps_apart : Stmt := topS 60
theorem sc_steps_apart : FnScope ["order", "chances", "across", "up", "upright", "lines", "starts", "row", "way", "step", "start"] ["order", "chances"] (defScope s_steps_apart) := ⟨rfl, rfl, rfl, by decide +kernel, rfl, by decide +kernel, by decide +kernel⟩
def spSteps (K : PySem.W.Frag) : Sp := fun vs H Q _ => ∃ u v ch, vs = [u, v] ∧ DT K H v (chD ch) ∧ ChOk ch ∧ ∀ l ys H', Ex H H' → H' l = some (.lst ys) → DTs K H' ys ((stepsM ch).map sideD) → Q (.ref l) H'
theorem ok_steps_apart (B : Bl mg) (c_two_steps : Cal P w K mg base 1 "_two_steps" ["chances"] (spTwo K)) (c_along : Cal P w K mg base 1 "_along" ["direction", "point"] (spAlong K)) (D0 : Df K mg "steps_apart" s_steps_apart) : Cal P w K mg base 2 "steps_apart" ["order", "chances"] (spSteps K) := by
  refine D0.cal sc_steps_apart (fun _ _ _ _ _ _ us hl => match us, hl with | [_, _], _ => rfl) (fun vs H Q E h => ?_) (fun f cdv A outer s H vs Q E hr h => ?_)
  · obtain ⟨u, v, ch, rfl, _⟩ := h
    rfl
  · obtain ⟨u, v, ch, rfl, hv, hc, q⟩ := h
    refine ⟨_, (pss_cons (ps_asg (pe_cal c_two_steps hr (by decide) rfl (pa_cons (pv 1) pa_nil)) (pg_tup rfl (pgs_cons (pg_tup rfl (pgs_cons (pg_name (i := 2) sc_steps_apart.nd rfl (.inl rfl)) (pgs_cons (pg_name (i := 3) sc_steps_apart.nd rfl (.inl rfl)) pgs_nil))) (pgs_cons (pg_name (i := 4) sc_steps_apart.nd rfl (.inl rfl)) pgs_nil))))
      (pss_cons (ps_if (pt_cmpR op_eq (pv 2) pe_int (nomark _)) (pss_one (ps_set (i := 5) sc_steps_apart.nd rfl (.inl rfl) (pe_lst (pa_cons (pe_tup (pa_cons (pe_tup (pa_cons pe_int (pa_cons pe_int pa_nil))) (pa_cons (pv 4) pa_nil))) pa_nil)))) (pss_one (ps_set (i := 5) sc_steps_apart.nd rfl (.inl rfl) (pe_lst (pa_cons (pe_tup (pa_cons (pe_tup (pa_cons pe_int (pa_cons pe_int pa_nil))) (pa_cons (pe_callB call_abs (by rfl) B.abs_ (by decide +kernel) (pa_cons (pv 2) pa_nil)) pa_nil))) (pa_cons (pe_tup (pa_cons (pe_tup (pa_cons (pe_un un_neg (pv 3)) (pa_cons (pv 2) pa_nil))) (pa_cons (pe_op op_mul (pe_callB call_abs (by rfl) B.abs_ (by decide +kernel) (pa_cons (pv 2) pa_nil)) (pv 4)) pa_nil))) pa_nil))))))
      (pss_cons (ps_set (i := 6) sc_steps_apart.nd rfl (.inr rfl) (pe_lc (own := [("row", 7)]) (g := gName 7) rfl sc_steps_apart.nd (pi_tup (pv 1)) (blkOk_by (N := ["order", "chances", "across", "up", "upright", "lines", "starts", "row", "way", "step", "start"]) (sc := defScope s_steps_apart) (by decide +kernel)) (fun _ _ _ _ _ => (pg_name (i := 7) sc_steps_apart.nd rfl (.inl rfl))) (fun _ _ _ _ _ => pts_nil) (fun _ _ _ _ _ => (pe_ix (r := rIxT K) ix_tup (pe_ix (r := rIxT K) ix_tup (pv 7) pe_int (fun _ _ => rfl)) pe_int (fun _ _ => rfl)))))
      (pss_one (ps_ret (pe_lc (own := [("way", 8), ("step", 9)]) (g := gTup K 2 (gCons (gName 8) (gCons (gName 9) gNil))) rfl sc_steps_apart.nd (pi_list (pv 5)) (blkOk_by (N := ["order", "chances", "across", "up", "upright", "lines", "starts", "row", "way", "step", "start"]) (sc := defScope s_steps_apart) (by decide +kernel)) (fun _ _ _ _ _ => (by exact (pg_tup rfl (pgs_cons (pg_name (i := 8) sc_steps_apart.nd rfl (.inr rfl)) (pgs_cons (pg_name (i := 9) sc_steps_apart.nd rfl (.inl rfl)) pgs_nil))))) (fun _ _ _ _ _ => pts_one (pt_cmpR op_ne (pv 9) pe_int (nomark _))) (fun _ _ _ _ _ => (pe_tup (pa_cons (pv 8) (pa_cons (pe_callTy (r := rTupOf K) call_tuple_of (by rfl) B.tuple_ (by decide +kernel) (pa_cons (pe_lc (own := [("start", 10)]) (g := gName 10) rfl sc_steps_apart.nd (pi_listK (K := K) (by rfl) (pv 6)) (blkOk_in (N := ["order", "chances", "across", "up", "upright", "lines", "starts", "row", "way", "step", "start"]) (by decide +kernel)) (fun _ _ _ _ _ => (pg_name (i := 10) sc_steps_apart.nd rfl (.inl rfl))) (fun _ _ _ _ _ => pts_nil) (fun _ _ _ _ _ => (pe_cal c_along hr (by decide) rfl (pa_cons (pv 8) (pa_cons (pv 10) pa_nil))))) pa_nil)) (pa_cons (pv 9) pa_nil))))))))))), ?_⟩
    walk_at "rdi"
    obtain ⟨a, xs, rfl, S, s0⟩ := dtT hv
    have hxl := s0.lenM
    refine ⟨.ref a, ch, rfl, hv, hc, fun t H1 e1 ht => ?_⟩
    obtain ⟨b, bs, rfl, Sb, sb⟩ := dtT ht
    cases sb with
    | cons z1 sb => cases sb with
      | cons z2 sb =>
        cases sb
        cases z2
        obtain ⟨pp, rfl, SP⟩ := DT.pair z1
        refine ⟨b, rfl, _, Sb, rfl, _, _, rfl, pp, rfl, _, SP, rfl, _, _, rfl, _, _, rfl, rfl, _, _, rfl, rfl, ?_⟩
        have hsa : (twoM ch).1.natAbs ≤ 6 := two_a hc ch (0, 0, 0) (fun x hx => hx) (by decide)
        generalize hs : twoM ch = st at hsa Sb SP z1 ht
        have hch : ∀ r ∈ ch, ∃ i r', r = (i, start r) :: r' := fun r hr => (start_in hc hr).2
        refine tIfS_use (fun σ' H' => ∃ L ws, σ' = [some u, some (.ref a), some (.int st.1), some (.int st.2.1), some (.int st.2.2), some (.ref L), none, none, none, none, none] ∧ Ex H1 H' ∧ H' L = some (.lst ws) ∧ DTs K H' ws ((linesM st).map lineD)) (fun N hN => ?_) ?_
        · walk_at "rd"
          by_cases h0 : st.1 = 0
          · rw [decide_eq_true h0]
            refine iteT ⟨by decide, fun p hp => ⟨by decide, fun p1 hp1 => ⟨by decide, fun p2 hp2 => hN _ _ ⟨p2, _, rfl, ((Gr.new hp).trans (.new hp1)).trans (.new hp2), upd_same, ?_⟩⟩⟩⟩
            rw [linesM, if_pos h0]
            have g1 : SqT K (upd (upd (upd H1 p (.tup [.int 0, .int 1])) p1 (.tup [.ref p, .int st.2.2])) p2 (.lst [.ref p1])) p [.int 0, .int 1] := sqT (((Gr.new (m := nob) hp1).trans (.new hp2)).get upd_same)
            have g2 : SqT K (upd (upd (upd H1 p (.tup [.int 0, .int 1])) p1 (.tup [.ref p, .int st.2.2])) p2 (.lst [.ref p1])) p1 [.ref p, .int st.2.2] := sqT ((Gr.new (m := nob) hp2).get upd_same)
            exact .cons (.tup g2 (.cons (.tup g1 (.cons (.int _) (.cons (.int _) .nil))) (.cons (.int _) .nil))) .nil
          · rw [decide_eq_false h0]
            have habs : (if st.1 < 0 then -st.1 else st.1) = (st.1.natAbs : Int) := by split <;> omega
            rw [habs]
            refine iteF ⟨by decide, fun p hp => ⟨by decide, fun p1 hp1 => ⟨by decide, fun p2 hp2 => ⟨.inl ⟨by omega, by omega⟩, by decide, fun p3 hp3 => ⟨by decide, fun p4 hp4 => hN _ _ ⟨p4, _, rfl, ((((Gr.new hp).trans (.new hp1)).trans (.new hp2)).trans (.new hp3)).trans (.new hp4), upd_same, ?_⟩⟩⟩⟩⟩⟩
            rw [linesM, if_neg h0]
            have k1 : ∀ {x : Addr} {o : HO}, (upd H1 p (.tup [.int 1, .int 0])) x = some o → (upd (upd (upd (upd (upd H1 p (.tup [.int 1, .int 0])) p1 (.tup [.ref p, .int (st.1.natAbs : Int)])) p2 (.tup [.int (-st.2.1), .int st.1])) p3 (.tup [.ref p2, .int ((st.1.natAbs : Int) * st.2.2)])) p4 (.lst [.ref p1, .ref p3])) x = some o := fun h => ((((Gr.new (m := nob) hp1).trans (.new hp2)).trans (.new hp3)).trans (.new hp4)).get h
            have k2 : ∀ {x : Addr} {o : HO}, (upd (upd H1 p (.tup [.int 1, .int 0])) p1 (.tup [.ref p, .int (st.1.natAbs : Int)])) x = some o → (upd (upd (upd (upd (upd H1 p (.tup [.int 1, .int 0])) p1 (.tup [.ref p, .int (st.1.natAbs : Int)])) p2 (.tup [.int (-st.2.1), .int st.1])) p3 (.tup [.ref p2, .int ((st.1.natAbs : Int) * st.2.2)])) p4 (.lst [.ref p1, .ref p3])) x = some o := fun h => (((Gr.new (m := nob) hp2).trans (.new hp3)).trans (.new hp4)).get h
            have k3 : ∀ {x : Addr} {o : HO}, (upd (upd (upd H1 p (.tup [.int 1, .int 0])) p1 (.tup [.ref p, .int (st.1.natAbs : Int)])) p2 (.tup [.int (-st.2.1), .int st.1])) x = some o → (upd (upd (upd (upd (upd H1 p (.tup [.int 1, .int 0])) p1 (.tup [.ref p, .int (st.1.natAbs : Int)])) p2 (.tup [.int (-st.2.1), .int st.1])) p3 (.tup [.ref p2, .int ((st.1.natAbs : Int) * st.2.2)])) p4 (.lst [.ref p1, .ref p3])) x = some o := fun h => ((Gr.new (m := nob) hp3).trans (.new hp4)).get h
            have k4 := (Gr.new (m := nob) (o := .lst [.ref p1, .ref p3]) hp4).get (upd_same (H := upd (upd (upd H1 p (.tup [.int 1, .int 0])) p1 (.tup [.ref p, .int (st.1.natAbs : Int)])) p2 (.tup [.int (-st.2.1), .int st.1])) (a := p3) (o := .tup [.ref p2, .int ((st.1.natAbs : Int) * st.2.2)]))
            exact .cons (.tup (sqT (k2 upd_same)) (.cons (.tup (sqT (k1 upd_same)) (.cons (.int _) (.cons (.int _) .nil))) (.cons (.int _) .nil))) (.cons (.tup (sqT k4) (.cons (.tup (sqT (k3 upd_same)) (.cons (.int _) (.cons (.int _) .nil))) (.cons (.int _) .nil))) .nil)
        · rintro σ' H2 ⟨L, ws, rfl, e2, fL, hws⟩
          have E2 := e1.trans e2
          have hll : (linesM st).length ≤ 2 := by
            unfold linesM
            split <;> simp
          have hwl := hws.lenM
          have hc4 := hc.l
          walk_at "rd"
          refine lcT0 (a := a) (xs := xs) (fun R h => ⟨_, rfl, h⟩) (E2.seqT S) (by omega) (fun i y H' => ∃ r, ch[i]? = some r ∧ DT K H' y (ptD (start r))) (fun i y H1 H2 ⟨k, z1, z2⟩ e => ⟨k, z1, z2.mono e⟩) ?_ ?_
          · intro i y H' Q' hy e q'
            obtain ⟨r, hr, hrd⟩ := s0.getM hy
            obtain ⟨i0, r', hr0⟩ := hch r (List.mem_of_getElem? hr)
            obtain ⟨c, cs, rfl, Sc, sc⟩ := dtT (hrd.mono (E2.trans e).any)
            have h1 : ∃ v cs', cs = v :: cs' ∧ DT K H' v (tkD (i0, start r)) := by
              rw [hr0] at sc
              cases sc with
              | cons h1 h2 => exact ⟨_, _, rfl, h1⟩
            obtain ⟨v, cs', hcs, hv2⟩ := h1
            obtain ⟨d, ds, rfl, Sd, sd⟩ := dtT hv2
            cases sd with
            | cons w1 sd => cases sd with
              | cons w2 sd =>
                cases sd
                walk_at "rd"
                exact ⟨c, cs, 0, _, rfl, rfl, Sc, atI_nat (j := 0) (by rw [hcs]; rfl), d, _, 1, _, rfl, rfl, Sd, atI_nat (j := 1) rfl, q' _ H' .refl ⟨r, hr, w2⟩⟩
          · intro D ys H3 hD e3 f3 l3 r3
            have hys : DTs K H3 ys ((ch.map start).map ptD) := DTs.of (by rw [l3, hxl, List.length_map, List.length_map]) fun i y hy => by
              obtain ⟨r, hr, hrd⟩ := r3 i y hy
              exact ⟨_, by rw [List.map_map, List.getElem?_map, hr]; rfl, hrd⟩
            have hyl := hys.lenM
            rw [List.length_map] at hyl
            walk_at "rd"
            refine lcFR (α := Pt × Int) (fun l y H => DT K H y (sideD (l.1, ch.map fun r => along l.1 (start r), l.2))) (fun d y H H' h e => h.mono e) (linesM st) (fun l => !decide (l.2 = 0)) (by rw [← hwl]; exact walk_list (K := K) (a := L) (xs := ws)) (fun R h => by exact ⟨_, rfl, L, rfl, ⟨_, sqL (e3.get fL)⟩, h⟩) (fun H' e => sqL ((e3.trans e).get fL)) (by omega) ?_ ?_
            · rintro i y H4 H5 l hl e4 ⟨rfl, hy⟩ F hF
              obtain ⟨l', hl', hld⟩ := hws.getM hy
              rw [hl] at hl'
              cases hl'
              obtain ⟨c, cs, rfl, Sc, sc⟩ := dtT (hld.mono (e3.trans e4).any)
              cases sc with
              | cons w1 sc => cases sc with
                | cons w2 sc =>
                  cases sc
                  cases w2
                  walk_at "rd"
                  refine ⟨_, Sc, rfl, _, _, rfl, _, _, rfl, rfl, hF _ _ rfl .refl (fun B hB => ?_) fun hp H6 Q' e6 k => ?_⟩
                  · walk_at "rd"
                    exact hB _ .refl
                  · walk_at "rd"
                    refine lcLf (a := D) (xs := ys) (fun R h => ⟨_, rfl, h⟩) (sqL ((e4.trans e6).get f3)) (by omega) ((ch.map fun r => along l.1 (start r)).map V.int) (by rw [List.length_map, List.length_map, hyl]) ?_ ?_
                    · intro j z zv H7 Q2 hz hzv e7 q2
                      obtain ⟨p, hp', hpd⟩ := hys.getM hz
                      rw [List.getElem?_map] at hp'
                      cases hcr : ch[j]? with
                      | none =>
                        rw [hcr] at hp'
                        cases hp'
                      | some r =>
                        rw [hcr] at hp'
                        cases hp'
                        rw [List.map_map, List.getElem?_map, hcr] at hzv
                        cases hzv
                        have hsi := (start_in hc (List.mem_of_getElem? hcr)).1
                        walk_at "rd"
                        exact ⟨_, z, l.1, start r, rfl, w1.mono (e6.trans e7).any, hpd.mono ((e4.trans e6).trans e7).any, ⟨⟨by have := hsi.1; omega, by have := hsi.1; omega⟩, by have := hsi.2; omega, by have := hsi.2; omega⟩, q2 H7 .refl⟩
                    · intro D2 H7 hD2 e7 f7
                      refine ⟨D2, _, rfl, .inl ⟨sqL f7, fun T hT => ⟨by decide, fun T2 hT2 => k (.ref T2) _ ((e7.trans (.new hT)).trans (.new hT2)) ?_⟩⟩⟩
                      exact .tup (sqT upd_same) (.cons (w1.mono (((e6.trans e7).trans (.new hT)).trans (.new hT2)).any) (.cons (.tup (sqT ((Gr.new (m := nob) hT2).get upd_same)) (dtsInts _)) (.cons (.int _) .nil)))
            · intro D2 zs H4 hD2 e4 f4 l4 r4
              refine q D2 zs H4 ((E2.trans e3).trans e4) f4 (DTs.of (by rw [l4, stepsM, hs, List.length_map, List.length_map]) fun i y hy => ?_)
              have hi : i < ((linesM st).filter fun l => !decide (l.2 = 0)).length := by
                rw [← l4]
                exact (List.getElem?_eq_some_iff.mp hy).1
              exact ⟨_, by rw [stepsM, hs, List.map_map, List.getElem?_map, List.getElem?_eq_getElem hi]; rfl, r4 i y _ hy (List.getElem?_eq_getElem hi)⟩
end
end K11

/-! how great the steps can be -/
namespace K11
open PySem PySem.Spec PyProof.Rows L2 Z ZE
theorem euF_lin : ∀ (n : Nat) (a u x y : Int), (euF n a u x y).1 = (euF n a 1 x 0).1 ∧ (euF n a u x y).2.1 = (euF n a 1 x 0).2.1 * u + (euF n a 0 x 1).2.1 * y ∧ (euF n a u x y).2.2 = (euF n a 1 x 0).2.2 * u + (euF n a 0 x 1).2.2 * y
  | 0, a, u, x, y => by
    refine ⟨rfl, ?_, ?_⟩
    · show u = 1 * u + 0 * y
      rw [Int.one_mul, Int.zero_mul, Int.add_zero]
    · show y = 0 * u + 1 * y
      rw [Int.one_mul, Int.zero_mul, Int.zero_add]
  | n + 1, a, u, x, y => by
    unfold euF
    by_cases h : x = 0
    · simp only [if_pos h]
      refine ⟨trivial, ?_, ?_⟩
      · rw [Int.one_mul, Int.zero_mul, Int.add_zero]
      · rw [Int.one_mul, Int.zero_mul, Int.zero_add]
    · simp only [if_neg h]
      generalize a.fdiv x = q
      generalize a - q * x = b
      have e1 := euF_lin n x y b (u - q * y)
      have e2 := euF_lin n x 0 b (1 - q * 0)
      have e3 := euF_lin n x 1 b (0 - q * 1)
      refine ⟨e1.1.trans e2.1.symm, ?_, ?_⟩
      · rw [e1.2.1, e2.2.1, e3.2.1]
        generalize (euF n x 1 b 0).2.1 = A
        generalize (euF n x 0 b 1).2.1 = B
        simp only [Int.mul_sub, Int.mul_zero, Int.mul_one, Int.sub_zero, Int.zero_sub, Int.zero_add, Int.add_mul, Int.mul_neg, Int.neg_mul, Int.mul_assoc]
        omega
      · rw [e1.2.2, e2.2.2, e3.2.2]
        generalize (euF n x 1 b 0).2.2 = A
        generalize (euF n x 0 b 1).2.2 = B
        simp only [Int.mul_sub, Int.mul_zero, Int.mul_one, Int.sub_zero, Int.zero_sub, Int.zero_add, Int.add_mul, Int.mul_neg, Int.neg_mul, Int.mul_assoc]
        omega
theorem coB : ∀ a : Fin 13, ∀ x : Fin 13, (euF 7 ((a.1 : Int) - 6) 1 ((x.1 : Int) - 6) 0).2.1.natAbs ≤ 7 ∧ (euF 7 ((a.1 : Int) - 6) 0 ((x.1 : Int) - 6) 1).2.1.natAbs ≤ 7 ∧ (euF 7 ((a.1 : Int) - 6) 1 ((x.1 : Int) - 6) 0).2.2.natAbs ≤ 7 ∧ (euF 7 ((a.1 : Int) - 6) 0 ((x.1 : Int) - 6) 1).2.2.natAbs ≤ 7 := by decide +kernel
theorem coB2 {a x : Int} (ha : a.natAbs ≤ 6) (hx : x.natAbs ≤ 6) : (euF 7 a 1 x 0).2.1.natAbs ≤ 7 ∧ (euF 7 a 0 x 1).2.1.natAbs ≤ 7 ∧ (euF 7 a 1 x 0).2.2.natAbs ≤ 7 ∧ (euF 7 a 0 x 1).2.2.natAbs ≤ 7 := by
  have h := coB ⟨(a + 6).toNat, by omega⟩ ⟨(x + 6).toNat, by omega⟩
  have e1 : (((a + 6).toNat : Nat) : Int) - 6 = a := by omega
  have e2 : (((x + 6).toNat : Nat) : Int) - 6 = x := by omega
  simp only [e1, e2] at h
  exact h
theorem mul7 {A u : Int} {M : Nat} (hA : A.natAbs ≤ 7) (hu : u.natAbs ≤ M) : (A * u).natAbs ≤ 7 * M := by
  rw [Int.natAbs_mul]
  exact Nat.mul_le_mul hA hu
theorem stp_le {s : Int × Int × Int} {d : Pt} {M : Nat} (hs : s.1.natAbs ≤ 6) (hd : d.1.natAbs ≤ 6) (h1 : s.2.1.natAbs ≤ M) (h2 : s.2.2.natAbs ≤ M) (h3 : d.2.natAbs ≤ M) : (stp s d).1.natAbs ≤ 6 ∧ (stp s d).2.1.natAbs ≤ 14 * M ∧ (stp s d).2.2.natAbs ≤ 14 * M := by
  have c := coB2 hs hd
  have e := euF_lin 7 s.1 s.2.1 d.1 d.2
  have m1 := mul7 c.1 h1
  have m2 := mul7 c.2.1 h3
  have m3 := mul7 c.2.2.1 h1
  have m4 := mul7 c.2.2.2 h3
  unfold stp
  refine ⟨euF_a 7 hs hd, ?_, ?_⟩
  · show (euF 7 s.1 s.2.1 d.1 d.2).2.1.natAbs ≤ _
    rw [e.2.1]
    omega
  · show (gcdI s.2.2 (euF 7 s.1 s.2.1 d.1 d.2).2.2).natAbs ≤ _
    have hy : (euF 7 s.1 s.2.1 d.1 d.2).2.2.natAbs ≤ 14 * M := by
      rw [e.2.2]
      omega
    generalize (euF 7 s.1 s.2.1 d.1 d.2).2.2 = y at hy
    unfold gcdI
    rw [Int.natAbs_natCast]
    by_cases h0 : s.2.2 = 0
    · rw [h0, Int.natAbs_zero, Nat.gcd_zero_left]
      exact hy
    · have := Nat.gcd_le_left (n := y.natAbs) (m := s.2.2.natAbs) (by omega)
      omega
theorem pw14 (n : Nat) : 6 ≤ 6 * 14 ^ n := by
  have : 1 ≤ 14 ^ n := Nat.one_le_pow _ _ (by decide)
  omega
theorem pw14_mono {n m : Nat} (h : n ≤ m) : 6 * 14 ^ n ≤ 6 * 14 ^ m := Nat.mul_le_mul (Nat.le_refl _) (Nat.pow_le_pow_right (by decide) h)
structure Bd (n : Nat) (s : Int × Int × Int) : Prop where
  a : s.1.natAbs ≤ 6
  u : s.2.1.natAbs ≤ 6 * 14 ^ n
  y : s.2.2.natAbs ≤ 6 * 14 ^ n
theorem Bd.mono {n m : Nat} {s : Int × Int × Int} (h : Bd n s) (hm : n ≤ m) : Bd m s := ⟨h.a, Nat.le_trans h.u (pw14_mono hm), Nat.le_trans h.y (pw14_mono hm)⟩
theorem Bd.step {n : Nat} {s : Int × Int × Int} {d : Pt} (h : Bd n s) (h1 : d.1.natAbs ≤ 6) (h2 : d.2.natAbs ≤ 6) : Bd (n + 1) (stp s d) := by
  obtain ⟨a, b, c⟩ := stp_le (M := 6 * 14 ^ n) h.a h1 h.u h.y (Nat.le_trans h2 (pw14 n))
  have e : 6 * 14 ^ (n + 1) = 14 * (6 * 14 ^ n) := by
    rw [Nat.pow_succ]
    omega
  exact ⟨a, e ▸ b, e ▸ c⟩
theorem Bd.row {st : Pt} (hst : start6 st) : ∀ (r : Row) {n : Nat} {s : Int × Int × Int}, Bd n s → (∀ e ∈ r, (0 ≤ e.2.1 ∧ e.2.1 ≤ 6) ∧ (0 ≤ e.2.2 ∧ e.2.2 ≤ 6)) → Bd (n + r.length) (stepsF st r s)
  | [], _, _, h, _ => h
  | e :: r, n, s, h, hr => by
    have h1 := hr e (List.mem_cons_self ..)
    have h2 := hst.1
    have h3 := hst.2
    have g := Bd.row hst r (h.step (d := (e.2.1 - st.1, e.2.2 - st.2)) (by show (e.2.1 - st.1).natAbs ≤ 6; omega) (by show (e.2.2 - st.2).natAbs ≤ 6; omega)) fun x hx => hr x (List.mem_cons_of_mem _ hx)
    rw [List.length_cons, show n + (r.length + 1) = n + 1 + r.length by omega]
    exact g
theorem Bd.still {n : Nat} {s : Int × Int × Int} {d : Pt} (h : Bd n s) (h1 : d.1 = 0) (h2 : d.2 = 0) : Bd n (stp s d) := by
  have e : euF 7 s.1 s.2.1 d.1 d.2 = (s.1, s.2.1, 0) := by
    rw [h1, h2]
    unfold euF
    rw [if_pos rfl]
  unfold stp
  rw [e]
  refine ⟨h.a, h.u, ?_⟩
  show (gcdI s.2.2 0).natAbs ≤ _
  unfold gcdI
  rw [Int.natAbs_natCast, Int.natAbs_zero, Nat.gcd_zero_right]
  exact h.y
theorem Bd.rows {ch : List Row} (hc : ChOk ch) : ∀ (l : List Row) {n : Nat} {s : Int × Int × Int}, (∀ r ∈ l, r ∈ ch) → Bd n s → Bd (n + 2 * l.length) (l.foldl (fun s r => stepsF (start r) r s) s)
  | [], _, _, _, h => h
  | r :: l, n, s, hl, h => by
    have hr := hl r (List.mem_cons_self ..)
    obtain ⟨hst, i0, r', hr0⟩ := start_in hc hr
    have h2 := (hc.r r hr).2
    have h3 := hc.p r hr
    have hb : Bd (n + 2) (stepsF (start r) r s) := by
      generalize start r = st at hst hr0
      subst hr0
      have h1 : Bd n (stp s (st.1 - st.1, st.2 - st.2)) := h.still (Int.sub_self _) (Int.sub_self _)
      have h4 := Bd.row hst r' h1 fun x hx => h3 x (List.mem_cons_of_mem _ hx)
      rw [List.length_cons] at h2
      exact h4.mono (by omega)
    have g := Bd.rows hc l (fun x hx => hl x (List.mem_cons_of_mem _ hx)) hb
    rw [List.length_cons, show n + 2 * (l.length + 1) = n + 2 + 2 * l.length by omega]
    exact g
theorem two_bd {ch : List Row} (hc : ChOk ch) : Bd 8 (twoM ch) := by
  have h := Bd.rows hc ch (n := 0) (s := (0, 0, 0)) (fun x hx => hx) ⟨by decide, by decide, by decide⟩
  exact h.mono (by have := hc.l; omega)
/-- the sides that tell how takers lie apart: at most two, steps within 2^38 -/
theorem steps_in {ch : List Row} (hc : ChOk ch) : (stepsM ch).length ≤ 2 ∧ ∀ s ∈ stepsM ch, (0 < s.2.2 ∧ s.2.2 < 2 ^ 38) ∧ s.2.1.length = ch.length := by
  have hb := two_bd hc
  have hu := hb.u
  have hy := hb.y
  have ha := hb.a
  have hn : 0 ≤ (twoM ch).2.2 := by
    unfold twoM
    have : ∀ (l : List Row) (s : Int × Int × Int), 0 ≤ s.2.2 → 0 ≤ (l.foldl (fun s r => stepsF (start r) r s) s).2.2 := by
      intro l
      induction l with
      | nil => exact fun s h => h
      | cons r l ih =>
        intro s h
        refine ih _ ?_
        unfold stepsF
        have : ∀ (r' : Row) (s : Int × Int × Int), 0 ≤ s.2.2 → 0 ≤ (r'.foldl (fun s e => stp s (e.2.1 - (start r).1, e.2.2 - (start r).2)) s).2.2 := by
          intro r'
          induction r' with
          | nil => exact fun s h => h
          | cons e r' ih2 => exact fun s _ => ih2 _ (Int.natCast_nonneg _)
        exact this r s h
    exact this ch _ (Int.le_refl _)
  have hl : (linesM (twoM ch)).length ≤ 2 ∧ ∀ l ∈ linesM (twoM ch), 0 ≤ l.2 ∧ l.2 < 2 ^ 38 := by
    have hm := mul7 (A := ((twoM ch).1.natAbs : Int)) (u := (twoM ch).2.2) (M := 6 * 14 ^ 8) (by omega) hy
    have hp : 0 ≤ ((twoM ch).1.natAbs : Int) * (twoM ch).2.2 := Int.mul_nonneg (Int.natCast_nonneg _) hn
    unfold linesM
    split
    · refine ⟨by simp, fun l hl => ?_⟩
      rw [List.mem_singleton] at hl
      subst hl
      exact ⟨hn, by omega⟩
    · refine ⟨by simp, fun l hl => ?_⟩
      rcases List.mem_cons.mp hl with rfl | hl
      · exact ⟨Int.natCast_nonneg _, by show ((twoM ch).1.natAbs : Int) < _; omega⟩
      · rw [List.mem_singleton] at hl
        subst hl
        exact ⟨hp, by show ((twoM ch).1.natAbs : Int) * (twoM ch).2.2 < _; omega⟩
  refine ⟨?_, fun s hs => ?_⟩
  · unfold stepsM
    rw [List.length_map]
    exact Nat.le_trans (List.length_filter_le _ _) hl.1
  · unfold stepsM at hs
    obtain ⟨l, h1, rfl⟩ := List.mem_map.mp hs
    obtain ⟨h2, h3⟩ := List.mem_filter.mp h1
    have h4 := hl.2 l h2
    have h5 : l.2 ≠ 0 := by simpa using h3
    exact ⟨⟨by show 0 < l.2; omega, h4.2⟩, by simp⟩
end K11

namespace K11
open PySem PySem.Spec PyProof.Rows L2 Z ZE RZ
local macro_rules | `(tactic| walk_at "rd") => `(tactic| try simp only [cxOf, tSeq, tIfS, tRet, tRetN, tAsg, tDrop, tNext, tBreak, tCont, tNever, tPar, tPar3, tAug, gName, gTup, gCons, gNil, gSub, tVar, tC, tOp, tUn, tCB, tBM, tBM0, tCons, tNil, tTest, tB, tAnd, tOr, tNot, tAndV, tOrV, tNotV, tIf, tChain,
  tTup, tLst, tCall, tMeth, tSl, tPart, tNoPart, tM1, tFmt, tJs_nil, tJs_cons, tCKw, rI0, rI, rU, rEq, rNe, scal_ii, scal_ss, scal_bb, ipI, iStr, iTup, iList, iRng1, sFld, tFld, L2.start, List.getElem?_cons_zero, List.getElem?_cons_succ, List.set_cons_zero, List.set_cons_succ, Option.some.injEq, V.int.injEq, V.bl.injEq, V.str.injEq, V.ref.injEq,
  List.cons.injEq, exists_and_left, exists_eq_left', exists_eq_left, exists_eq_right, exists_eq_right', exists_eq', exists_eq, and_true, true_and, and_self, List.map_cons, List.map_nil, List.length_cons, List.length_nil, List.replicate_succ, List.replicate_zero, List.cons_append, List.nil_append, List.append_nil,
  Nat.add_sub_cancel, Nat.reduceAdd, Nat.reduceSub, if_true, if_false, ite_true, ite_false, Bool.not_true, Bool.not_false, Bool.true_eq_false, Bool.false_eq_true, reduceIte, reduceCtorEq, false_and, exists_false, or_false, false_or, decide_true, decide_false, wipe])

section
variable {P : Program} {w : World} {K : PySem.W.Frag} {mg : Str → Option Value} {base : Heap} {C : Addr}
theorem steps_two {ch : List Row} (hc : ChOk ch) {s t : Side} (h : stepsM ch = [s, t]) : s.2.2 ≤ 6 := by
  have ha := (two_bd hc).a
  unfold stepsM linesM at h
  split at h
  · rw [List.filter_cons] at h
    split at h <;> cases h
  · rename_i h0
    rw [List.filter_cons, if_pos (by simpa using h0), List.map_cons] at h
    injection h with h1 _
    rw [← h1]
    show ((twoM ch).1.natAbs : Int) ≤ 6
    omega
abbrev s_common_divisor : Stmt := topS 61
theorem sc_common_divisor : FnScope ["order", "chances", "divisor", "direction", "reached", "step", "whole"] ["order", "chances"] (defScope s_common_divisor) := ⟨rfl, rfl, rfl, by decide +kernel, rfl, by decide +kernel, by decide +kernel⟩
theorem lg {x : Int} (h : x < 2 ^ 60) (h0 : 0 < x := by assumption) : x.natAbs.log2 < 9000 := by
  have : x.natAbs < 2 ^ 60 := by omega
  have := (Nat.log2_lt (by omega)).mpr this
  omega
def spDivi (K : PySem.W.Frag) (C : Addr) : Sp := fun vs H Q _ => ∃ x v o ch, vs = [.ref x, v] ∧ OrdAt K C H x o ∧ DT K H v (chD ch) ∧ ChOk ch ∧ ch.length = o.ks.length ∧ ∀ H', Ex H H' → Q (.int (divM o ch)) H'
theorem ok_common_divisor (g_gcd : mg "gcd" = some (.builtin "math.gcd")) (g_lcm : mg "lcm" = some (.builtin "math.lcm")) (c_steps_apart : Cal P w K mg base 2 "steps_apart" ["order", "chances"] (spSteps K)) (c_all_shares : Cal P w K mg base 3 "all_shares" ["order"] (spAllSh K C)) (c_room : Cal P w K mg base 6 "_room" ["order", "reached", "direction"] (spRoom K C)) (D0 : Df K mg "common_divisor" s_common_divisor) : Cal P w K mg base 7 "common_divisor" ["order", "chances"] (spDivi K C) := by
  refine D0.cal sc_common_divisor (fun _ _ _ _ _ _ us hl => match us, hl with | [_, _], _ => rfl) (fun vs H Q E h => ?_) (fun f cdv A outer s H vs Q E hr h => ?_)
  · obtain ⟨x, v, o, ch, rfl, _⟩ := h
    rfl
  · obtain ⟨x, v, o, ch, rfl, O, hv, hc, hl, q⟩ := h
    refine ⟨_, (pss_cons (ps_set (i := 2) sc_common_divisor.nd rfl (.inl rfl) pe_int)
      (pss_cons (ps_for PassesOwn.never rfl (pi_list (pe_cal c_steps_apart hr (by decide) rfl (pa_cons (pv 0) (pa_cons (pv 1) pa_nil)))) (pg_tup rfl (pgs_cons (pg_name (i := 3) sc_common_divisor.nd rfl (.inl rfl)) (pgs_cons (pg_name (i := 4) sc_common_divisor.nd rfl (.inl rfl)) (pgs_cons (pg_name (i := 5) sc_common_divisor.nd rfl (.inl rfl)) pgs_nil)))) (pss_cons (ps_set (i := 6) sc_common_divisor.nd rfl (.inl rfl) (pe_op op_mul (pe_cal c_all_shares hr (by decide) rfl (pa_cons (pv 0) pa_nil)) (pv 5)))
      (pss_one (ps_set (i := 2) sc_common_divisor.nd rfl (.inl rfl) (pe_callBfun cr_lcm (by rfl) g_lcm (pa_cons (pv 2) (pa_cons (pe_op op_fdivW (pv 6) (pe_callBfun cr_gcd (by rfl) g_gcd (pa_cons (pe_cal c_room hr (by decide) rfl (pa_cons (pv 0) (pa_cons (pv 4) (pa_cons (pv 3) pa_nil)))) (pa_cons (pv 6) pa_nil)))) pa_nil)))))))
      (pss_one (ps_ret (pv 2))))), ?_⟩
    walk_at "rd"
    have hst := steps_in hc
    have hP := P_in O.ok
    have hq : ∀ s ∈ stepsM ch, 0 < o.P * s.2.2 ∧ o.P * s.2.2 < 2 ^ 60 ∧ 0 < gcdI (roomM o s.2.1 s.1) (o.P * s.2.2) ∧ gcdI (roomM o s.2.1 s.1) (o.P * s.2.2) < 2 ^ 60 ∧ 0 ≤ (o.P * s.2.2) / (gcdI (roomM o s.2.1 s.1) (o.P * s.2.2)) ∧ (o.P * s.2.2) / (gcdI (roomM o s.2.1 s.1) (o.P * s.2.2)) < 2 ^ 60 := by
      intro s hs
      have h1 := (hst.2 s hs).1
      have h2 : 0 < o.P * s.2.2 := Int.mul_pos hP.1 h1.1
      have h3 : o.P * s.2.2 ≤ 9 * s.2.2 := Int.mul_le_mul_of_nonneg_right hP.2 (by omega)
      generalize o.P * s.2.2 = W at h2 h3 ⊢
      generalize roomM o s.2.1 s.1 = R
      have h4 : 0 < R.natAbs.gcd W.natAbs := Nat.gcd_pos_of_pos_right _ (by omega)
      have h5 : R.natAbs.gcd W.natAbs ≤ W.natAbs := Nat.gcd_le_right _ (by omega)
      have h6 : 0 < gcdI R W := by unfold gcdI; omega
      have h7 : gcdI R W ≤ W := by unfold gcdI; omega
      have h8 : W / gcdI R W ≤ W := Int.ediv_le_self _ (by omega)
      exact ⟨h2, by omega, h6, by omega, Int.ediv_nonneg (by omega) (by omega), by omega⟩
    refine forLm (fun p xs H1 => Ex H H1 ∧ H1 p = some (.lst xs) ∧ DTs K H1 xs ((stepsM ch).map sideD)) (fun R hR => ⟨_, rfl, _, rfl, _, _, ch, rfl, hv, hc, fun l ys H1 e f d => hR l ys H1 ⟨e, f, d⟩⟩) (fun p xs H1 c => sqL c.2.1) (fun p xs i σ' H' => ∃ (y3 y4 y5 y6 : Option V) (d : Int), σ' = [some (.ref x), some v, some (.int d), y3, y4, y5, y6] ∧ (Ex H H' ∧ H' p = some (.lst xs) ∧ DTs K H' xs ((stepsM ch).map sideD)) ∧ d = ((stepsM ch).take i).foldl (divStep o) 1 ∧ (i ≤ 1 → 0 < d ∧ d < 2 ^ 60)) (fun p xs H1 c => ⟨_, _, _, _, 1, rfl, c, rfl, fun _ => by decide⟩) (fun p xs i σ' H' ⟨_, _, _, _, _, _, c, _⟩ => sqL c.2.1) ?_ ?_
    · rintro p xs i z σ' H' hz ⟨y3, y4, y5, y6, d, rfl, ⟨e, f, ds⟩, hd, hdb⟩
      obtain ⟨sd, hs, hzd⟩ := ds.get hz
      rw [List.getElem?_map] at hs
      cases hcs : (stepsM ch)[i]? with
      | none =>
        rw [hcs] at hs
        cases hs
      | some s =>
        rw [hcs] at hs
        cases hs
        have hsm := List.mem_of_getElem? hcs
        obtain ⟨q1, q2, q3, q4, q5, q6⟩ := hq s hsm
        have hsl := (hst.2 s hsm).2
        have hi : i ≤ 1 := by
          have h1 := (List.getElem?_eq_some_iff.mp hcs).1
          have h2 := hst.1
          omega
        have hd2 := hdb hi
        have htk : ((stepsM ch).take (i + 1)).foldl (divStep o) 1 = divStep o d s := by
          rw [List.take_add_one, hcs, Option.toList_some, List.foldl_append, ← hd]
          rfl
        obtain ⟨b, bs, rfl, Sb, sb⟩ := dtT hzd
        cases sb with
        | cons w1 sb => cases sb with
          | cons w2 sb => cases sb with
            | cons w3 sb =>
              cases sb
              cases w3
              obtain ⟨g, gs, rfl, Sg, sg⟩ := dtT w2
              have hgs := dtsIntsInv sg
              subst hgs
              walk_at "rd"
              have O' := O.up e (fun h => h)
              refine ⟨_, Sb, rfl, _, _, rfl, _, _, rfl, _, _, rfl, rfl, x, o, rfl, O', fun H1 e1 => ⟨o.P, rfl, s.2.2, rfl, .inl ⟨by omega, by omega⟩, x, o, g, s.2.1, _, s.1, rfl, O'.up e1 (fun h => h), e1.seqT Sg, hsl.trans hl, w1.mono e1.any, fun H2 e2 => ⟨_, _, rfl, _, rfl, ⟨q3, lg q4 q3⟩, _, _, rfl, by omega, ?_, _, _, _, _, divStep o d s, ⟨rfl, rfl, rfl, rfl, rfl⟩, ⟨(e.trans e1).trans e2, (e1.trans e2).get f, ds.mono (e1.trans e2).any⟩, htk.symm, fun h => ?_⟩⟩⟩
              · show ((o.P * s.2.2) / (gcdI (roomM o s.2.1 s.1) (o.P * s.2.2))).natAbs < 2 ^ 64
                omega
              · obtain rfl : i = 0 := by omega
                have hd1 : d = 1 := hd
                subst hd1
                have hpos : 0 < (o.P * s.2.2) / (gcdI (roomM o s.2.1 s.1) (o.P * s.2.2)) := by
                  refine Int.ediv_pos_of_pos_of_dvd q1 (by omega) ?_
                  unfold gcdI
                  exact Int.dvd_natAbs.mp (Int.natCast_dvd_natCast.mpr (Nat.gcd_dvd_right _ _))
                unfold divStep
                show 0 < ((Nat.lcm (1 : Int).natAbs _ : Nat) : Int) ∧ ((Nat.lcm (1 : Int).natAbs _ : Nat) : Int) < 2 ^ 60
                rw [show (1 : Int).natAbs = 1 from rfl, Nat.lcm_one_left]
                omega
    · rintro p xs σ' H' ⟨y3, y4, y5, y6, d, rfl, ⟨e, f, ds⟩, hd, _⟩
      walk_at "rd"
      have hl := ds.len
      rw [List.length_map] at hl
      rw [hl, List.take_length] at hd
      rw [hd]
      exact q H' e
end
end K11

/-! the steps between points of takers, as a lattice; so the divisor is small. -/
namespace K11
open PySem PySem.Spec PyProof.Rows L2 Z ZE
/-- these vectors make up the lattice of (a, u) and (0, y) -/
structure Lat (V : List Pt) (s : Int × Int × Int) : Prop where
  i1 : ∀ v ∈ V, ∃ k m : Int, v.1 = k * s.1 ∧ v.2 = k * s.2.1 + m * s.2.2
  i2 : ∀ c1 c2 : Int, (∀ v ∈ V, c1 * v.1 + c2 * v.2 = 0) → c1 * s.1 + c2 * s.2.1 = 0 ∧ c2 * s.2.2 = 0
  i3 : s.1 = 0 → s.2.1 = 0
theorem eu_lat : ∀ (n : Nat) (a u x y : Int), x.natAbs < n → (∃ p q p' q' : Int, a = p * (euF n a u x y).1 ∧ u = p * (euF n a u x y).2.1 + q * (euF n a u x y).2.2 ∧ x = p' * (euF n a u x y).1 ∧ y = p' * (euF n a u x y).2.1 + q' * (euF n a u x y).2.2) ∧ ∀ c1 c2 : Int, c1 * a + c2 * u = 0 → c1 * x + c2 * y = 0 → c1 * (euF n a u x y).1 + c2 * (euF n a u x y).2.1 = 0 ∧ c2 * (euF n a u x y).2.2 = 0
  | 0, _, _, _, _, h => absurd h (by omega)
  | n + 1, a, u, x, y, h => by
    unfold euF
    by_cases h0 : x = 0
    · simp only [if_pos h0]
      refine ⟨⟨1, 0, 0, 1, by omega, by omega, by omega, by omega⟩, fun c1 c2 e1 e2 => ⟨e1, ?_⟩⟩
      rw [h0, Int.mul_zero] at e2
      omega
    · simp only [if_neg h0]
      have hlt := fmod_lt (a := a) h0
      generalize a.fdiv x = q0 at hlt ⊢
      obtain ⟨⟨p, q, p', q', e1, e2, e3, e4⟩, hk⟩ := eu_lat n x y (a - q0 * x) (u - q0 * y) (by omega)
      generalize euF n x y (a - q0 * x) (u - q0 * y) = r at e1 e2 e3 e4 hk ⊢
      obtain ⟨ra, ru, ry⟩ := r
      simp only at e1 e2 e3 e4 hk ⊢
      refine ⟨⟨p' + q0 * p, q' + q0 * q, p, q, ?_, ?_, e1, e2⟩, fun c1 c2 f1 f2 => ?_⟩
      · have : a = p' * ra + q0 * x := by omega
        rw [this, e1, Int.add_mul, Int.mul_assoc]
      · have : u = p' * ru + q' * ry + q0 * y := by omega
        rw [this, e2, Int.mul_add, Int.add_mul, Int.add_mul, Int.mul_assoc, Int.mul_assoc]
        omega
      · refine hk c1 c2 f2 ?_
        have z : c1 * (a - q0 * x) + c2 * (u - q0 * y) = (c1 * a + c2 * u) - q0 * (c1 * x + c2 * y) := by
          rw [Int.mul_sub, Int.mul_sub, Int.mul_add, Int.mul_left_comm c1, Int.mul_left_comm c2]
          omega
        rw [z, f1, f2, Int.mul_zero]
        rfl
theorem eu3 : ∀ (n : Nat) (a u x y : Int), (a = 0 → u = 0) → (euF n a u x y).1 = 0 → (euF n a u x y).2.1 = 0
  | 0, _, _, _, _, h => h
  | n + 1, a, u, x, y, h => by
    unfold euF
    by_cases h0 : x = 0
    · simp only [if_pos h0]
      exact h
    · simp only [if_neg h0]
      exact eu3 n x y _ _ fun z => absurd z h0
theorem Lat.step {V : List Pt} {s : Int × Int × Int} {d : Pt} (h : Lat V s) (hd : d.1.natAbs ≤ 6) : Lat (d :: V) (stp s d) := by
  obtain ⟨⟨p, q, p', q', e1, e2, e3, e4⟩, hk⟩ := eu_lat 7 s.1 s.2.1 d.1 d.2 (by omega)
  have hk3 := eu3 7 s.1 s.2.1 d.1 d.2 h.i3
  unfold stp
  generalize euF 7 s.1 s.2.1 d.1 d.2 = r at e1 e2 e3 e4 hk hk3 ⊢
  obtain ⟨ra, ru, ry⟩ := r
  simp only at e1 e2 e3 e4 hk hk3 ⊢
  have g1 : gcdI s.2.2 ry ∣ s.2.2 := by
    unfold gcdI
    exact Int.dvd_natAbs.mp (Int.natCast_dvd_natCast.mpr (Nat.gcd_dvd_left _ _))
  have g2 : gcdI s.2.2 ry ∣ ry := by
    unfold gcdI
    exact Int.dvd_natAbs.mp (Int.natCast_dvd_natCast.mpr (Nat.gcd_dvd_right _ _))
  obtain ⟨f, hf⟩ := g1
  obtain ⟨e, he⟩ := g2
  refine ⟨fun v hv => ?_, fun c1 c2 hc => ?_, hk3⟩
  · show ∃ k m : Int, v.1 = k * ra ∧ v.2 = k * ru + m * gcdI s.2.2 ry
    rcases List.mem_cons.mp hv with rfl | hv
    · refine ⟨p', q' * e, e3, ?_⟩
      rw [e4]
      have : q' * ry = q' * e * gcdI s.2.2 ry := by
        conv => lhs; rw [he]
        rw [Int.mul_comm (gcdI s.2.2 ry) e, Int.mul_assoc]
      omega
    · obtain ⟨k, m, v1, v2⟩ := h.i1 v hv
      refine ⟨k * p, k * q * e + m * f, ?_, ?_⟩
      · rw [v1, e1, Int.mul_assoc]
      · rw [v2, e2]
        have a1 : k * (p * ru + q * ry) = k * p * ru + k * q * ry := by rw [Int.mul_add, Int.mul_assoc, Int.mul_assoc]
        have a2 : k * q * ry = k * q * e * gcdI s.2.2 ry := by
          conv => lhs; rw [he]
          rw [Int.mul_comm (gcdI s.2.2 ry) e, ← Int.mul_assoc]
        have a3 : m * s.2.2 = m * f * gcdI s.2.2 ry := by
          conv => lhs; rw [hf]
          rw [Int.mul_comm (gcdI s.2.2 ry) f, Int.mul_assoc]
        rw [Int.add_mul]
        omega
  · have h1 := h.i2 c1 c2 fun v hv => hc v (List.mem_cons_of_mem _ hv)
    have h2 := hk c1 c2 h1.1 (hc d (List.mem_cons_self ..))
    refine ⟨h2.1, ?_⟩
    show c2 * gcdI s.2.2 ry = 0
    rcases Int.mul_eq_zero.mp h1.2 with z | z
    · rw [z, Int.zero_mul]
    · rcases Int.mul_eq_zero.mp h2.2 with z2 | z2
      · rw [z2, Int.zero_mul]
      · have z2 : ry = 0 := z2
        have z : s.2.2 = 0 := z
        rw [z, z2]
        exact Int.mul_zero _
/-- so many vectors, none longer than 6 in a direction -/
def Near (V : List Pt) : Prop := ∀ v ∈ V, v.1.natAbs ≤ 6 ∧ v.2.natAbs ≤ 6
theorem lat_row {st : Pt} (hst : start6 st) : ∀ (r : Row) {V : List Pt} {s : Int × Int × Int}, Lat V s → Near V → (∀ e ∈ r, (0 ≤ e.2.1 ∧ e.2.1 ≤ 6) ∧ (0 ≤ e.2.2 ∧ e.2.2 ≤ 6)) → ∃ V', Lat V' (stepsF st r s) ∧ Near V'
  | [], V, s, h, hn, _ => ⟨V, h, hn⟩
  | e :: r, V, s, h, hn, hr => by
    have h1 := hr e (List.mem_cons_self ..)
    have h2 := hst.1
    have h3 := hst.2
    have a : ((e.2.1 - st.1, e.2.2 - st.2) : Pt).1.natAbs ≤ 6 := by show (e.2.1 - st.1).natAbs ≤ 6; omega
    have b : ((e.2.1 - st.1, e.2.2 - st.2) : Pt).2.natAbs ≤ 6 := by show (e.2.2 - st.2).natAbs ≤ 6; omega
    refine lat_row hst r (h.step a) (fun v hv => ?_) fun x hx => hr x (List.mem_cons_of_mem _ hx)
    rcases List.mem_cons.mp hv with rfl | hv
    · exact ⟨a, b⟩
    · exact hn v hv
theorem lat_two {ch : List Row} (hc : ChOk ch) : ∃ V, Lat V (twoM ch) ∧ Near V := by
  have key : ∀ (l : List Row) {V : List Pt} {s : Int × Int × Int}, (∀ r ∈ l, r ∈ ch) → Lat V s → Near V → ∃ V', Lat V' (l.foldl (fun s r => stepsF (start r) r s) s) ∧ Near V' := by
    intro l
    induction l with
    | nil => exact fun _ h hn => ⟨_, h, hn⟩
    | cons r l ih =>
      intro V s hl h hn
      have hr := hl r (List.mem_cons_self ..)
      obtain ⟨V', h', hn'⟩ := lat_row (start_in hc hr).1 r h hn (hc.p r hr)
      exact ih (fun x hx => hl x (List.mem_cons_of_mem _ hx)) h' hn'
  exact key ch (V := []) (s := (0, 0, 0)) (fun x hx => hx) ⟨fun v hv => absurd hv (by simp), fun c1 c2 _ => by simp, fun _ => rfl⟩ fun v hv => absurd hv (by simp)
theorem mul36 {a b : Int} (ha : a.natAbs ≤ 6) (hb : b.natAbs ≤ 6) : (a * b).natAbs ≤ 36 := by
  rw [Int.natAbs_mul]
  exact Nat.mul_le_mul ha hb
/-- the lattice is not wide -/
theorem lat_small {ch : List Row} (hc : ChOk ch) : ((twoM ch).1 * (twoM ch).2.2).natAbs ≤ 72 ∧ ((twoM ch).1 = 0 → (twoM ch).2.2.natAbs ≤ 6) := by
  obtain ⟨V, h, hn⟩ := lat_two hc
  generalize twoM ch = s at h ⊢
  obtain ⟨a, u, y⟩ := s
  have i1 : ∀ v ∈ V, ∃ k m : Int, v.1 = k * a ∧ v.2 = k * u + m * y := h.i1
  have i2 : ∀ c1 c2 : Int, (∀ v ∈ V, c1 * v.1 + c2 * v.2 = 0) → c1 * a + c2 * u = 0 ∧ c2 * y = 0 := h.i2
  show (a * y).natAbs ≤ 72 ∧ (a = 0 → y.natAbs ≤ 6)
  refine ⟨?_, fun ha => ?_⟩
  · by_cases hd : ∃ v ∈ V, ∃ w ∈ V, v.1 * w.2 - v.2 * w.1 ≠ 0
    · obtain ⟨v, hv, w, hw, hvw⟩ := hd
      obtain ⟨k, m, v1, v2⟩ := i1 v hv
      obtain ⟨k', m', w1, w2⟩ := i1 w hw
      have hdet : v.1 * w.2 - v.2 * w.1 = (k * m' - m * k') * (a * y) := by
        rw [v1, v2, w1, w2]
        grind
      have b1 := mul36 (hn v hv).1 (hn w hw).2
      have b2 := mul36 (hn v hv).2 (hn w hw).1
      have hb : (v.1 * w.2 - v.2 * w.1).natAbs ≤ 72 := by omega
      rw [hdet] at hb hvw
      rw [Int.natAbs_mul] at hb
      have hk : k * m' - m * k' ≠ 0 := fun z => hvw (by rw [z, Int.zero_mul])
      have : 1 ≤ (k * m' - m * k').natAbs := by omega
      have := Nat.mul_le_mul this (Nat.le_refl (a * y).natAbs)
      omega
    · have hz : ∀ v ∈ V, ∀ w ∈ V, v.1 * w.2 - v.2 * w.1 = 0 := fun v hv w hw => by
        by_cases z : v.1 * w.2 - v.2 * w.1 = 0
        · exact z
        · exact absurd ⟨v, hv, w, hw, z⟩ hd
      by_cases hy : y = 0
      · rw [hy, Int.mul_zero]
        decide
      · have hv0 : ∀ v ∈ V, v.1 = 0 := fun v hv => by
          have := (i2 v.2 (-v.1) fun w hw => by
            have := hz v hv w hw
            rw [Int.neg_mul]
            omega).2
          rcases Int.mul_eq_zero.mp this with z | z
          · omega
          · exact absurd z hy
        have := (i2 1 0 fun w hw => by rw [hv0 w hw]; omega).1
        have ha : a = 0 := by omega
        rw [ha, Int.zero_mul]
        decide
  · by_cases hy : y = 0
    · rw [hy]
      decide
    · by_cases hd : ∃ v ∈ V, v.2 ≠ 0
      · obtain ⟨v, hv, hv2⟩ := hd
        obtain ⟨k, m, v1, v2⟩ := i1 v hv
        have hu : u = 0 := h.i3 ha
        rw [hu, Int.mul_zero, Int.zero_add] at v2
        have hb := (hn v hv).2
        rw [v2, Int.natAbs_mul] at hb
        rw [v2] at hv2
        have hm : m ≠ 0 := fun z => hv2 (by rw [z, Int.zero_mul])
        have := Nat.mul_le_mul (show 1 ≤ m.natAbs by omega) (Nat.le_refl y.natAbs)
        omega
      · have hz : ∀ v ∈ V, v.2 = 0 := fun v hv => by
          by_cases z : v.2 = 0
          · exact z
          · exact absurd ⟨v, hv, z⟩ hd
        have := (i2 0 1 fun w hw => by rw [hz w hw]; omega).2
        omega
/-- the steps of the lines -/
theorem steps_small {ch : List Row} (hc : ChOk ch) : ∀ s ∈ stepsM ch, s.2.2 ≤ 72 := by
  intro s hs
  have hl := lat_small hc
  have ha := (two_bd hc).a
  have hp := ((steps_in hc).2 s hs).1
  unfold stepsM linesM at hs
  obtain ⟨l, h1, rfl⟩ := List.mem_map.mp hs
  have h2 := (List.mem_filter.mp h1).1
  show l.2 ≤ 72
  split at h2
  · rename_i h0
    rw [List.mem_singleton] at h2
    subst h2
    have := hl.2 h0
    show (twoM ch).2.2 ≤ 72
    omega
  · rcases List.mem_cons.mp h2 with rfl | h2
    · show ((twoM ch).1.natAbs : Int) ≤ 72
      omega
    · rw [List.mem_singleton] at h2
      subst h2
      have h3 := hl.1
      rw [Int.natAbs_mul] at h3
      show ((twoM ch).1.natAbs : Int) * (twoM ch).2.2 ≤ 72
      have h4 : (twoM ch).2.2 ≤ ((twoM ch).2.2.natAbs : Int) := by omega
      have h5 := Int.mul_le_mul_of_nonneg_left h4 (show 0 ≤ ((twoM ch).1.natAbs : Int) by omega)
      have h6 : ((twoM ch).1.natAbs : Int) * ((twoM ch).2.2.natAbs : Int) = (((twoM ch).1.natAbs * (twoM ch).2.2.natAbs : Nat) : Int) := by rw [Int.natCast_mul]
      omega
/-- the greatest common divisor is not great -/
theorem divM_in {o : Od} (ho : o.ok) {ch : List Row} (hc : ChOk ch) : 0 < divM o ch ∧ divM o ch < 2 ^ 30 := by
  have hst := steps_in hc
  have hP := P_in ho
  -- one step more
  have one : ∀ (s : Side) (d : Int), s ∈ stepsM ch → 0 < d → 0 < divStep o d s ∧ divStep o d s ≤ d * (o.P * s.2.2) := by
    intro s d hs hd
    have h1 := (hst.2 s hs).1
    have h2 : 0 < o.P * s.2.2 := Int.mul_pos hP.1 h1.1
    unfold divStep
    generalize o.P * s.2.2 = W at h2 ⊢
    generalize roomM o s.2.1 s.1 = R
    have h4 : 0 < R.natAbs.gcd W.natAbs := Nat.gcd_pos_of_pos_right _ (by omega)
    have h6 : 0 < gcdI R W := by unfold gcdI; omega
    have h8 : W / gcdI R W ≤ W := Int.ediv_le_self _ (by omega)
    have h9 : 0 < W / gcdI R W := by
      refine Int.ediv_pos_of_pos_of_dvd h2 (by omega) ?_
      unfold gcdI
      exact Int.dvd_natAbs.mp (Int.natCast_dvd_natCast.mpr (Nat.gcd_dvd_right _ _))
    generalize W / gcdI R W = z at h8 h9
    have ha : 0 < d.natAbs.lcm z.natAbs := Nat.lcm_pos (by omega) (by omega)
    have hb : d.natAbs.lcm z.natAbs ≤ d.natAbs * z.natAbs := Nat.le_of_dvd (Nat.mul_pos (by omega) (by omega)) (Nat.lcm_dvd_mul _ _)
    have hc : d.natAbs * z.natAbs ≤ d.natAbs * W.natAbs := Nat.mul_le_mul (Nat.le_refl _) (by omega)
    have hd2 : ((d.natAbs * W.natAbs : Nat) : Int) = d * W := by rw [Int.natCast_mul, Int.natAbs_of_nonneg (by omega), Int.natAbs_of_nonneg (by omega)]
    omega
  unfold divM
  have hlen := hst.1
  have hmem := hst.2
  have htwo := fun s t => steps_two hc (s := s) (t := t)
  have hsm := steps_small hc
  revert hsm htwo one hmem hlen
  generalize stepsM ch = l
  intro one hlen hmem htwo hsm
  match l, hlen with
  | [], _ => exact ⟨show (0 : Int) < 1 by decide, show (1 : Int) < 2 ^ 30 by decide⟩
  | [s], _ =>
    have h1 := one s 1 (List.mem_cons_self ..) (by decide)
    have h2 := (hmem s (List.mem_cons_self ..)).1
    have h4 := hsm s (List.mem_cons_self ..)
    have h3 : o.P * s.2.2 ≤ 9 * s.2.2 := Int.mul_le_mul_of_nonneg_right hP.2 (by omega)
    show 0 < divStep o 1 s ∧ divStep o 1 s < _
    omega
  | [s, t], _ =>
    have h1 := one s 1 (List.mem_cons_self ..) (by decide)
    have h2 := (hmem s (List.mem_cons_self ..)).1
    have h3 : o.P * s.2.2 ≤ 9 * 6 := Int.mul_le_mul hP.2 (htwo s t rfl) (by omega) (by decide)
    have g1 := one t (divStep o 1 s) (List.mem_cons_of_mem _ (List.mem_cons_self ..)) h1.1
    have g2 := (hmem t (List.mem_cons_of_mem _ (List.mem_cons_self ..))).1
    have g5 := hsm t (List.mem_cons_of_mem _ (List.mem_cons_self ..))
    have g3 : o.P * t.2.2 ≤ 9 * t.2.2 := Int.mul_le_mul_of_nonneg_right hP.2 (by omega)
    have g4 : divStep o 1 s * (o.P * t.2.2) ≤ 54 * (9 * 72) := Int.mul_le_mul (by omega) (by omega) (Int.mul_nonneg (by omega) (by omega)) (by decide)
    show 0 < divStep o (divStep o 1 s) t ∧ divStep o (divStep o 1 s) t < _
    omega
end K11

/-! the search for a sharing of a few boxes, as plain functions. -/
namespace K11
open PySem PySem.Spec PyProof.Rows L2 Z ZE
/-- all ways to give so many things to people with so much room -/
def waysM : List Int → Int → List (List Int)
  | [], _ => []
  | [r], n => if n ≤ r then [[n]] else []
  | r :: s :: rs, n => ((List.range (min n r + 1 - max 0 (n - (s :: rs).sum)).toNat).map fun i : Nat => (waysM (s :: rs) (n - (max 0 (n - (s :: rs).sum) + (i : Int)))).map fun w => (max 0 (n - (s :: rs).sum) + (i : Int)) :: w).flatten
abbrev Grid := List Nat
def grV (g : Grid) : List V := g.map fun r : Nat => V.int (r : Int)
def movedM (g : Grid) (x y ey : Nat) : Grid := List.replicate (min x g.length) 0 ++ (g.take (g.length - x)).map fun r => (r * 2 ^ y) % 2 ^ (ey + 1)
def joinedM : List Grid → Grid
  | [] => []
  | g :: gs => gs.foldl (fun w h => List.zipWith (fun a b => a ||| b) w h) g
def givenF : Nat → Grid → Nat → Nat → List Pt → Nat → Grid
  | 0, g, _, _, _, _ => g
  | f + 1, g, many, given, pts, ey => if given < many then givenF f (joinedM (pts.map fun p => movedM g (min (many - given) (given / 2 + 1) * p.1.toNat) (min (many - given) (given / 2 + 1) * p.2.toNat) ey)) many (given + min (many - given) (given / 2 + 1)) pts ey else g
def givenM (g : Grid) (many : Nat) (pts : List Pt) (ey : Nat) : Grid := givenF many g many 0 pts ey
def grid0 (ex : Nat) : Grid := (List.replicate (ex + 1) 0).set 0 1
def gridStep (n : Nat) (ey : Nat) (s : Grid × List Grid) (q : Kd × Row) : Grid × List Grid := (givenM s.1 (n * q.1.c.toNat) (q.2.map (·.2)) ey, s.2 ++ [givenM s.1 (n * q.1.c.toNat) (q.2.map (·.2)) ey])
def gridsM (o : Od) (n : Nat) (ch : List Row) (e : Pt) : List Grid := ((o.ks.zip ch).foldl (gridStep n e.2.toNat) (grid0 e.1.toNat, [grid0 e.1.toNat])).2
def standsM (g : Grid) (p : Pt) : Bool := decide (0 ≤ p.1) && decide (0 ≤ p.2) && (g.getD p.1.toNat 0).testBit p.2.toNat
/-- the point and the room of each person -/
def ptsOf (np : Nat) (r : Row) : List Pt := r.foldl (fun l e => l.set e.1 e.2) (List.replicate np (0, 0))
def roomsOf (np : Nat) (many : Int) (r : Row) : List Int := r.foldl (fun l e => l.set e.1 many) (List.replicate np 0)
def backPt (e : Pt) (pts : List Pt) (c : List Int) : Pt := (e.1 - ((c.zip pts).map fun q => q.1 * q.2.1).sum, e.2 - ((c.zip pts).map fun q => q.1 * q.2.2).sum)
def stepBackM (np : Nat) (many : Int) (r : Row) (g : Grid) (e : Pt) : Option (List Int × Pt) := ((waysM (roomsOf np many r) many).find? fun c => standsM g (backPt e (ptsOf np r) c)).map fun c => (c, backPt e (ptsOf np r) c)
/-- back over the kinds, the last one first: what each kind gives, and where this leads -/
def backM (np : Nat) : List (Int × Row × Grid) → Pt → List (List Int)
  | [], _ => []
  | q :: l, e => match stepBackM np q.1 q.2.1 q.2.2 e with
    | some s => s.1 :: backM np l s.2
    | none => []
def fillM (o : Od) (n : Nat) (ch : List Row) : Option (List (List Int)) :=
  match wholeM o n with
  | none => none
  | some due =>
    if standsM ((gridsM o n ch (ptOf o.m due)).getLastD []) (ptOf o.m due) = true then
      some ((List.range o.np).map fun i => (backM o.np (((o.ks.zip (ch.zip (gridsM o n ch (ptOf o.m due)))).map fun q => ((n : Int) * q.1.c, q.2.1, q.2.2)).reverse) (ptOf o.m due)).reverse.map fun c => c.getD i 0)
    else none
end K11

namespace K11
open PySem PySem.Spec PyProof.Rows L2 Z ZE RZ
local macro_rules | `(tactic| walk_at "rd") => `(tactic| try simp only [cxOf, tSeq, tIfS, tRet, tRetN, tAsg, tDrop, tNext, tBreak, tCont, tNever, tPar, tPar3, tAug, gName, gTup, gCons, gNil, gSub, tVar, tC, tOp, tUn, tCB, tBM, tBM0, tCons, tNil, tTest, tB, tAnd, tOr, tNot, tAndV, tOrV, tNotV, tIf, tChain,
  tTup, tLst, tCall, tMeth, tSl, tPart, tNoPart, tM1, tFmt, tJs_nil, tJs_cons, tCKw, rI0, rI, rU, rEq, rNe, scal_ii, scal_ss, scal_bb, ipI, iStr, iTup, iList, iRng1, sFld, tFld, L2.start, List.getElem?_cons_zero, List.getElem?_cons_succ, List.set_cons_zero, List.set_cons_succ, Option.some.injEq, V.int.injEq, V.bl.injEq, V.str.injEq, V.ref.injEq,
  List.cons.injEq, exists_and_left, exists_eq_left', exists_eq_left, exists_eq_right, exists_eq_right', exists_eq', exists_eq, and_true, true_and, and_self, List.map_cons, List.map_nil, List.length_cons, List.length_nil, List.replicate_succ, List.replicate_zero, List.cons_append, List.nil_append, List.append_nil,
  Nat.add_sub_cancel, Nat.reduceAdd, Nat.reduceSub, if_true, if_false, ite_true, ite_false, Bool.not_true, Bool.not_false, Bool.true_eq_false, Bool.false_eq_true, reduceIte, reduceCtorEq, false_and, exists_false, or_false, false_or, decide_true, decide_false, wipe])

local macro_rules | `(tactic| walk_at "rdi") => `(tactic| try simp only [cxOf, tSeq, tRet, tRetN, tAsg, tDrop, tNext, tBreak, tCont, tNever, tPar, tPar3, tAug, gName, gTup, gCons, gNil, gSub, tVar, tC, tOp, tUn, tCB, tBM, tBM0, tCons, tNil, tTest, tB, tAnd, tOr, tNot, tAndV, tOrV, tNotV, tChain,
  tTup, tLst, tCall, tMeth, tSl, tPart, tNoPart, tM1, tFmt, tJs_nil, tJs_cons, tCKw, rI0, rI, rU, rEq, rNe, scal_ii, scal_ss, scal_bb, ipI, iStr, iTup, iList, iRng1, sFld, tFld, L2.start, List.getElem?_cons_zero, List.getElem?_cons_succ, List.set_cons_zero, List.set_cons_succ, Option.some.injEq, V.int.injEq, V.bl.injEq, V.str.injEq, V.ref.injEq,
  List.cons.injEq, exists_and_left, exists_eq_left', exists_eq_left, exists_eq_right, exists_eq_right', exists_eq', exists_eq, and_true, true_and, and_self, List.map_cons, List.map_nil, List.length_cons, List.length_nil, List.replicate_succ, List.replicate_zero, List.cons_append, List.nil_append, List.append_nil,
  Nat.add_sub_cancel, Nat.reduceAdd, Nat.reduceSub, if_true, if_false, ite_true, ite_false, Bool.not_true, Bool.not_false, Bool.true_eq_false, Bool.false_eq_true, reduceIte, reduceCtorEq, false_and, exists_false, or_false, false_or, decide_true, decide_false, wipe])

section
variable {P : Program} {w : World} {K : PySem.W.Frag} {mg : Str → Option Value} {base : Heap} {C : Addr}
theorem sum_nn : ∀ {l : List Int}, (∀ x ∈ l, 0 ≤ x) → 0 ≤ l.sum
  | [], _ => by decide
  | x :: l, h => by
    have h1 := h x (List.mem_cons_self ..)
    have h2 := sum_nn fun y hy => h y (List.mem_cons_of_mem x hy)
    rw [List.sum_cons]
    omega
theorem cut_one (x : V) (xs : List V) : cutV (x :: xs) (some 1) none = xs := by
  unfold cutV
  have h0 : HT.sIx (x :: xs).length 0 (some 1) = 1 := by
    have := HT.sIx_nat (x :: xs).length 0 1
    rw [List.length_cons] at this ⊢
    rw [show (some (1 : Int)) = some ((1 : Nat) : Int) from rfl, this]
    omega
  rw [h0, HT.sIx_none, List.drop_succ_cons, List.drop_zero, List.take_of_length_le (by rw [List.length_cons]; omega)]
theorem ways_len : ∀ (rs : List Int) {n : Int}, (0 ≤ n ∧ n ≤ 40) → (∀ r ∈ rs, 0 ≤ r ∧ r ≤ 40) → (waysM rs n).length ≤ 41 ^ (rs.length - 1)
  | [], _, _, _ => by simp [waysM]
  | [r], n, _, _ => by
    unfold waysM
    split <;> simp
  | r :: s :: rs, n, hn, hr => by
    unfold waysM
    have h0 := hr r (List.mem_cons_self ..)
    have h := flat_le (n := 41 ^ rs.length) (f := fun i : Nat => (waysM (s :: rs) (n - (max 0 (n - (s :: rs).sum) + (i : Int)))).map fun w => (max 0 (n - (s :: rs).sum) + (i : Int)) :: w) (List.range (min n r + 1 - max 0 (n - (s :: rs).sum)).toNat) fun i hi => by
      rw [List.length_map]
      have hi := List.mem_range.mp hi
      have := ways_len (s :: rs) (n := n - (max 0 (n - (s :: rs).sum) + (i : Int))) ⟨by omega, by omega⟩ fun x hx => hr x (List.mem_cons_of_mem _ hx)
      simpa using this
    refine Nat.le_trans h ?_
    rw [List.length_range, show (r :: s :: rs).length - 1 = rs.length + 1 by simp, Nat.pow_succ, Nat.mul_comm]
    exact Nat.mul_le_mul (Nat.le_refl _) (by omega)
theorem ways_el : ∀ (rs : List Int) (n : Int), ∀ v ∈ waysM rs n, v.length = rs.length
  | [], _, v, hv => by simp [waysM] at hv
  | [r], n, v, hv => by
    unfold waysM at hv
    split at hv
    · simp at hv
      rw [hv]
      rfl
    · simp at hv
  | r :: s :: rs, n, v, hv => by
    unfold waysM at hv
    obtain ⟨l, h1, h2⟩ := List.mem_flatten.mp hv
    obtain ⟨i, _, rfl⟩ := List.mem_map.mp h1
    obtain ⟨u, h3, rfl⟩ := List.mem_map.mp h2
    rw [List.length_cons, ways_el (s :: rs) _ u h3, List.length_cons]
    rfl
abbrev s_ways : Stmt := topS 69
theorem sc_ways : FnScope ["many", "rooms", "others", "least", "most", "first", "more"] ["many", "rooms"] (defScope s_ways) := ⟨rfl, rfl, rfl, by decide +kernel, rfl, by decide +kernel, by decide +kernel⟩
def wayD (l : List Int) : D := .tup (l.map D.int)
def spWays (K : PySem.W.Frag) (k : Nat) : Sp := fun vs H Q _ => ∃ (n : Int) (a : Addr) (rs : List Int), vs = [.int n, .ref a] ∧ SqL K H a (rs.map V.int) ∧ (1 ≤ rs.length ∧ rs.length ≤ k) ∧ (0 ≤ n ∧ n ≤ 40) ∧ (∀ r ∈ rs, 0 ≤ r ∧ r ≤ 40) ∧ ∀ l ys H', Ex H H' → H l = none → H' l = some (.lst ys) → DTs K H' ys ((waysM rs n).map wayD) → Q (.ref l) H'
theorem ways0 (D0 : Df K mg "ways" s_ways) : Cal P w K mg base 1 "ways" ["many", "rooms"] (spWays K 0) := by
  refine D0.cal sc_ways (fun _ _ _ _ _ _ us hl => match us, hl with | [_, _], _ => rfl) (fun vs H Q E h => ?_) (fun f cdv A outer s H vs Q E hr h => ?_)
  · obtain ⟨n, a, rs, rfl, _, h, _⟩ := h
    omega
  · obtain ⟨n, a, rs, rfl, _, h, _⟩ := h
    omega
theorem ok_waysS {L k : Nat} (hk : k + 1 ≤ 3) (B : Bl mg) (c_ways : Cal P w K mg base L "ways" ["many", "rooms"] (spWays K k)) (D0 : Df K mg "ways" s_ways) : Cal P w K mg base (L + 1) "ways" ["many", "rooms"] (spWays K (k + 1)) := by
  refine D0.cal sc_ways (fun _ _ _ _ _ _ us hl => match us, hl with | [_, _], _ => rfl) (fun vs H Q E h => ?_) (fun f cdv A outer s H vs Q E hr h => ?_)
  · obtain ⟨n, a, rs, rfl, _⟩ := h
    rfl
  · obtain ⟨n, a, rs, rfl, S, hl, hn, hr0, q⟩ := h
    refine ⟨_, (pss_cons (ps_set (i := 2) sc_ways.nd rfl (.inr rfl) (pe_slice (r := rSlL K) sl_list (pv 1) (po_some pe_int) po_none))
      (pss_cons (ps_if (pt_not (pt_truth (pv 2) (by intro _; rfl))) (pss_one (ps_ret (pe_ifExp (pt_cmpR op_le (pv 0) (pe_ix (r := rIxL K) ix_list (pv 1) pe_int (fun _ _ => rfl)) (nomark _)) (pe_lst (pa_cons (pe_tup (pa_cons (pv 0) pa_nil)) pa_nil)) (pe_lst pa_nil)))) pss_nil)
      (pss_cons (ps_set (i := 3) sc_ways.nd rfl (.inl rfl) (pe_callB (call_max2 rfl) (by rfl) B.max_ (by decide +kernel) (pa_cons pe_int (pa_cons (pe_op op_sub (pv 0) (pe_callB (r := rSum K) (cr_sum rfl) (by rfl) B.sum_ (by decide +kernel) (pa_cons (pv 2) pa_nil))) pa_nil))))
      (pss_cons (ps_set (i := 4) sc_ways.nd rfl (.inl rfl) (pe_callB (call_min2 rfl) (by rfl) B.min_ (by decide +kernel) (pa_cons (pv 0) (pa_cons (pe_ix (r := rIxL K) ix_list (pv 1) pe_int (fun _ _ => rfl)) pa_nil))))
      (pss_one (ps_ret (pe_lc2 (own := [("first", 5), ("more", 6)]) (vs1 := [6]) (g := gName 5) (g1 := gName 6) rfl sc_ways.nd (pi_range2 rfl B.range_ (pa_cons (pv 3) (pa_cons (pe_op op_add (pv 4) pe_int) pa_nil))) (blkOk_by (N := ["many", "rooms", "others", "least", "most", "first", "more"]) (sc := defScope s_ways) (by decide +kernel)) (by decide) (fun _ _ _ _ _ => (pg_name (i := 5) sc_ways.nd rfl (.inl rfl))) (fun _ _ _ _ _ => pts_nil) (fun _ _ _ _ _ => (pi_listK (K := K) (by rfl) (pe_cal c_ways hr (Nat.le_refl _) rfl (pa_cons (pe_op op_sub (pv 0) (pv 5)) (pa_cons (pv 2) pa_nil))))) (fun _ _ _ _ _ => (pg_name (i := 6) sc_ways.nd rfl (.inl rfl))) (fun _ _ _ _ _ => pts_nil) (fun _ _ _ _ _ => (pe_tup (pa_cons (pv 5) (pa_starK rfl (pv 6) pa_nil))))))))))), ?_⟩
    walk_at "rdi"
    cases rs with
    | nil => exact absurd hl.1 (by decide)
    | cons r rs => cases rs with
      | nil =>
        refine ⟨a, _, rfl, S, fun p hp => ?_⟩
        rw [show cutV ([r].map V.int) (some 1) none = [] from cut_one _ _]
        have e1 : Ex H (upd H p (.lst [])) := .new hp
        refine ⟨.ref p, rfl, false, .inl ⟨[], sqL upd_same, rfl⟩, ?_⟩
        have S1 := e1.seqL S id
        generalize upd H p (.lst []) = H1 at e1 S1 ⊢
        have hq : waysM [r] n = if n ≤ r then [[n]] else [] := rfl
        rw [hq] at q
        refine iteT ?_
        walk_at "rd"
        refine ⟨a, _, 0, _, rfl, rfl, S1, atI_nat (j := 0) rfl, r, rfl, ?_⟩
        by_cases h : n ≤ r
        · rw [decide_eq_true h]
          rw [if_pos h] at q
          refine iteT ⟨by decide, fun p1 hp1 => ⟨by decide, fun p2 hp2 => q p2 [.ref p1] _ ((e1.trans (.new hp1)).trans (.new hp2)) ((e1.trans (.new hp1)).free hp2) upd_same ?_⟩⟩
          exact .cons (.tup (sqT ((Gr.new (m := nob) hp2).get upd_same)) (.cons (.int _) .nil)) .nil
        · rw [decide_eq_false h]
          rw [if_neg h] at q
          refine iteF ⟨by decide, fun p1 hp1 => q p1 [] _ (e1.trans (.new hp1)) (e1.free hp1) upd_same .nil⟩
      | cons s rs =>
        refine ⟨a, _, rfl, S, fun p hp => ?_⟩
        rw [show cutV ((r :: s :: rs).map V.int) (some 1) none = (s :: rs).map V.int from cut_one _ _]
        have e1 : Ex H (upd H p (.lst ((s :: rs).map V.int))) := .new hp
        have f1 := upd_same (H := H) (a := p) (o := .lst ((s :: rs).map V.int))
        have S1 := e1.seqL S id
        refine ⟨.ref p, rfl, true, .inl ⟨_, sqL f1, rfl⟩, ?_⟩
        generalize upd H p (.lst ((s :: rs).map V.int)) = H1 at e1 f1 S1 ⊢
        show tNext _ _ _
        walk_at "rdi"
        have hn' := ways_len (r :: s :: rs) hn hr0
        have hr1 := hr0 r (List.mem_cons_self ..)
        have hle : (41 : Nat) ^ ((r :: s :: rs).length - 1) ≤ 41 ^ 2 := Nat.pow_le_pow_right (by decide) (by omega)
        have hq : waysM (r :: s :: rs) n = ((List.range (min n r + 1 - max 0 (n - (s :: rs).sum)).toNat).map fun i : Nat => (waysM (s :: rs) (n - (max 0 (n - (s :: rs).sum) + (i : Int)))).map fun w => (max 0 (n - (s :: rs).sum) + (i : Int)) :: w).flatten := rfl
        rw [hq] at q hn'
        refine ⟨p, s :: rs, rfl, sqL f1, ?_⟩
        have hmx : (if n - (s :: rs).sum > 0 then n - (s :: rs).sum else 0) = max 0 (n - (s :: rs).sum) := by split <;> omega
        refine ⟨_, rfl, _, _, ⟨rfl, rfl⟩, a, _, 0, _, rfl, rfl, S1, atI_nat (j := 0) rfl, _, _, ⟨rfl, rfl⟩, ?_⟩
        rw [hmx]
        have hmn : (if r < n then r else n) = min n r := by split <;> omega
        rw [hmn]
        have hsum : 0 ≤ (s :: rs).sum := sum_nn fun x hx => (hr0 x (List.mem_cons_of_mem _ hx)).1
        generalize hlo : max 0 (n - (s :: rs).sum) = lo at q hn' ⊢
        generalize hmo : min n r = mo at q hn' ⊢
        refine lc2R (fun d y H => DT K H y (wayD d)) (fun d y H H' h e => h.mono e) ((List.range (mo + 1 - lo).toNat).map fun i : Nat => (waysM (s :: rs) (n - (lo + (i : Int)))).map fun w => (lo + (i : Int)) :: w) (by rw [List.length_map, List.length_range]; exact walk_range (lo := lo) (n := (mo + 1 - lo).toNat)) (fun R h => by
          exact ⟨_, rfl, _, rfl, mo, 1, rfl, rfl, lo, mo + 1, rfl, ⟨by omega, by omega, by omega, by omega⟩, h⟩) (fun _ _ => trivial) (by omega) ?_ ?_
        · rintro D i x H' H'' ds hD hi e ⟨acc, hacc⟩ ⟨rfl, rfl⟩ F hF
          rw [List.getElem?_map] at hi
          have hi2 : i < (mo + 1 - lo).toNat := by
            rcases Nat.lt_or_ge i (mo + 1 - lo).toNat with h | h
            · exact h
            · rw [List.getElem?_eq_none (by rw [List.length_range]; exact h)] at hi
              cases hi
          rw [List.getElem?_range hi2] at hi
          cases hi
          walk_at "rdi"
          refine hF _ _ rfl .refl fun R hR => ?_
          walk_at "rdi"
          refine ⟨n - (lo + (i : Int)), p, s :: rs, rfl, sqL (e.get f1), ⟨by simp, by simp at hl ⊢; omega⟩, ⟨by omega, by omega⟩, fun x hx => hr0 x (List.mem_cons_of_mem _ hx), fun l ys H3 e3 hl3 f3 d3 => ⟨l, rfl, ⟨ys, sqL f3⟩, hR (Itl K l) (fun H => SqL K H l ys) (YAt ys) H3 (by rw [List.length_map, ← d3.lenM]; exact walk_list (K := K) (a := l) (xs := ys)) e3 (fun H' g => g.seqL (sqL f3) fun hld => ?_) fun j x H4 H5 Q2 d hd g ⟨hH, hx⟩ q2 => ?_⟩⟩
          · rw [hld, hacc] at hl3
            cases hl3
          · obtain ⟨v, hv, hvd⟩ := d3.getM hx
            rw [List.getElem?_map, hv] at hd
            cases hd
            subst hH
            walk_at "rdi"
            obtain ⟨c, cs, rfl, Sc, sc⟩ := dtT (hvd.mono g.any)
            have hcs := dtsIntsInv sc
            subst hcs
            have hvl := ways_el _ _ _ (List.mem_of_getElem? hv)
            refine ⟨_, rfl, c, _, rfl, .inl Sc, ?_⟩
            show (v.map V.int ++ []).length + 1 ≤ sizeLine ∧ _
            rw [List.append_nil, List.length_map, hvl]
            refine ⟨Nat.le_trans (show (s :: rs).length + 1 ≤ 10 by simp at hl ⊢; omega) (by decide), fun p2 hp2 => q2 _ _ (.new hp2) ?_⟩
            exact .tup (sqT upd_same) (dtsInts (_ :: v))
        · intro D ys H2 hD e2 f2 l2 r2
          exact q D ys H2 (e1.trans e2) (e1.free hD) f2 (DTs.of (by rw [l2, List.length_map]) fun i y hy => by
            have hi := (List.getElem?_eq_some_iff.mp hy).1
            rw [l2] at hi
            exact ⟨_, by rw [List.getElem?_map, List.getElem?_eq_getElem hi]; rfl, r2 i y _ hy (List.getElem?_eq_getElem hi)⟩)
end
end K11

namespace K11
open PySem PySem.Spec PyProof.Rows L2 Z ZE RZ
local macro_rules | `(tactic| walk_at "rd") => `(tactic| try simp only [cxOf, tSeq, tIfS, tRet, tRetN, tAsg, tDrop, tNext, tBreak, tCont, tNever, tPar, tPar3, tAug, gName, gTup, gCons, gNil, gSub, tVar, tC, tOp, tUn, tCB, tBM, tBM0, tCons, tNil, tTest, tB, tAnd, tOr, tNot, tAndV, tOrV, tNotV, tIf, tChain,
  tTup, tLst, tCall, tMeth, tSl, tPart, tNoPart, tM1, tFmt, tJs_nil, tJs_cons, tCKw, rI0, rI, rU, rEq, rNe, scal_ii, scal_ss, scal_bb, ipI, iStr, iTup, iList, iRng1, sFld, tFld, L2.start, List.getElem?_cons_zero, List.getElem?_cons_succ, List.set_cons_zero, List.set_cons_succ, Option.some.injEq, V.int.injEq, V.bl.injEq, V.str.injEq, V.ref.injEq,
  List.cons.injEq, exists_and_left, exists_eq_left', exists_eq_left, exists_eq_right, exists_eq_right', exists_eq', exists_eq, and_true, true_and, and_self, List.map_cons, List.map_nil, List.length_cons, List.length_nil, List.replicate_succ, List.replicate_zero, List.cons_append, List.nil_append, List.append_nil,
  Nat.add_sub_cancel, Nat.reduceAdd, Nat.reduceSub, if_true, if_false, ite_true, ite_false, Bool.not_true, Bool.not_false, Bool.true_eq_false, Bool.false_eq_true, reduceIte, reduceCtorEq, false_and, exists_false, or_false, false_or, decide_true, decide_false, wipe])

section
variable {P : Program} {w : World} {K : PySem.W.Frag} {mg : Str → Option Value} {base : Heap} {C : Addr}
/-- a grid of so many bits a row -/
def GrB (ey : Nat) (g : Grid) : Prop := g.length ≤ 1001 ∧ ∀ r ∈ g, r < 2 ^ (ey + 1)
theorem two_pred (n : Nat) : (2 : Int) ^ n - 1 = ((2 ^ n - 1 : Nat) : Int) := by
  have h : 1 ≤ 2 ^ n := Nat.one_le_pow _ _ (by decide)
  rw [Int.ofNat_sub h, Int.natCast_pow]
  rfl
abbrev s_moved : Stmt := topS 74
theorem sc_moved : FnScope ["grid", "x", "y", "end", "bits", "rows", "place", "row"] ["grid", "x", "y", "end"] (defScope s_moved) := ⟨rfl, rfl, rfl, by decide +kernel, rfl, by decide +kernel, by decide +kernel⟩
def spMoved (K : PySem.W.Frag) : Sp := fun vs H Q _ => ∃ (a : Addr) (g : Grid) (x y : Nat) (v : V) (e : Pt), vs = [.ref a, .int (x : Int), .int (y : Int), v] ∧ SqL K H a (grV g) ∧ DT K H v (ptD e) ∧ (0 ≤ e.2 ∧ e.2 ≤ 1000) ∧ GrB e.2.toNat g ∧ (x ≤ 1000 ∧ y ≤ 1000) ∧ ∀ l H', Ex H H' → H l = none → H' l = some (.lst (grV (movedM g x y e.2.toNat))) → Q (.ref l) H'
theorem ok_moved (B : Bl mg) (D0 : Df K mg "_moved" s_moved) : Cal P w K mg base 1 "_moved" ["grid", "x", "y", "end"] (spMoved K) := by
  refine D0.cal sc_moved (fun _ _ _ _ _ _ us hl => match us, hl with | [_, _, _, _], _ => rfl) (fun vs H Q E h => ?_) (fun f cdv A outer s H vs Q E hr h => ?_)
  · obtain ⟨a, g, x, y, v, e, rfl, _⟩ := h
    rfl
  · obtain ⟨a, g, x, y, v, e, rfl, S, hv, he, hg, hxy, q⟩ := h
    refine ⟨_, (pss_cons (ps_set (i := 4) sc_moved.nd rfl (.inr rfl) (pe_op op_sub (pe_op op_shlW pe_int (pe_op op_add (pe_ix (r := rIxT K) ix_tup (pv 3) pe_int (fun _ _ => rfl)) pe_int)) pe_int))
      (pss_cons (ps_setLc (i := 5) (own := [("place", 6)]) (g := gName 6) rfl sc_moved.nd rfl rfl (sw_true rfl rfl rfl (by decide +kernel)) (pi_range1 rfl B.range_ (pa_cons (pe_callB (call_min2 rfl) (by rfl) B.min_ (by decide +kernel) (pa_cons (pv 1) (pa_cons (pe_callB (r := rLenQ K) call_len_seq (by rfl) B.len_ PySem.boot_len (pa_cons (pv 0) pa_nil)) pa_nil))) pa_nil)) (blkOk_by (N := ["grid", "x", "y", "end", "bits", "rows", "place", "row"]) (sc := defScope s_moved) (by decide +kernel)) (fun _ _ _ _ _ => (pg_name (i := 6) sc_moved.nd rfl (.inl rfl))) (fun _ _ _ _ _ => pts_nil) (fun _ _ _ _ _ => pe_int))
      (pss_one (ps_ret (pe_op op_cat (pv 5) (pe_lc (own := [("row", 7)]) (g := gName 7) rfl sc_moved.nd (pi_list (pe_slice (r := rSlL K) sl_list (pv 0) po_none (po_some (pe_callB (call_max2 rfl) (by rfl) B.max_ (by decide +kernel) (pa_cons pe_int (pa_cons (pe_op op_sub (pe_callB (r := rLenQ K) call_len_seq (by rfl) B.len_ PySem.boot_len (pa_cons (pv 0) pa_nil)) (pv 1)) pa_nil)))))) (blkOk_by (N := ["grid", "x", "y", "end", "bits", "rows", "place", "row"]) (sc := defScope s_moved) (by decide +kernel)) (fun _ _ _ _ _ => (pg_name (i := 7) sc_moved.nd rfl (.inl rfl))) (fun _ _ _ _ _ => pts_nil) (fun _ _ _ _ _ => (pe_op op_and (pe_op op_shlW (pv 7) (pv 2)) (pv 4))))))))), ?_⟩
    walk_at "rd"
    obtain ⟨p, rfl, SP⟩ := DT.pair hv
    have hbit : (1 : Int) * 2 ^ (e.2 + 1).toNat - 1 = ((2 ^ (e.2.toNat + 1) - 1 : Nat) : Int) := by
      rw [Int.one_mul, show (e.2 + 1).toNat = e.2.toNat + 1 by omega]
      exact two_pred _
    refine ⟨p, _, 1, _, rfl, rfl, SP, atI_nat (j := 1) rfl, e.2, rfl, ?_, ?_⟩
    · have := shl_ok (i := 1) (j := (e.2 + 1).toNat) (n := 1) (by decide) (by omega)
      rwa [Int.toNat_of_nonneg (by omega)] at this
    rw [hbit]
    refine lcRf (min x g.length) (fun R h => ?_) (by have := hg.1; omega) (List.replicate (min x g.length) (.int 0)) (by simp) ?_ ?_
    · refine ⟨_, rfl, _, rfl, a, _, rfl, .inl S, _, _, rfl, ?_⟩
      show R [V.int (if ((grV g).length : Int) < (x : Int) then ((grV g).length : Int) else (x : Int))] H
      have hm : (if ((grV g).length : Int) < (x : Int) then ((grV g).length : Int) else (x : Int)) = ((min x g.length : Nat) : Int) := by
        rw [show (grV g).length = g.length by simp [grV]]
        split <;> omega
      rw [hm]
      exact h
    · intro i z H' Q' hz e1 q'
      walk_at "rd"
      have := List.eq_of_mem_replicate (List.mem_of_getElem? hz)
      subst this
      exact q' _ .refl
    · intro D H1 hD e1 f1
      refine lcLd (fun b H2 => Ex H1 H2 ∧ SqL K H2 b (grV (g.take (g.length - x)))) (fun R h => ?_) fun b H2 ⟨e2, S2⟩ => ?_
      · have S1 := e1.seqL S id
        refine ⟨_, rfl, .ref a, rfl, a, _, rfl, .inl S1, _, rfl, _, _, rfl, rfl, _, _, rfl, _, rfl, a, _, rfl, S1, fun p2 hp2 => ?_⟩
        have hm : (if ((grV g).length : Int) - (x : Int) > 0 then ((grV g).length : Int) - (x : Int) else 0) = ((g.length - x : Nat) : Int) := by
          rw [show (grV g).length = g.length by simp [grV]]
          split <;> omega
        rw [hm, cut_take]
        refine h _ _ ⟨.new hp2, sqL ?_⟩
        rw [upd_same]
        simp [grV, List.map_take]
      · refine lcLf (xs := grV (g.take (g.length - x))) (fun R h => h) S2 (by simp [grV]; have := hg.1; omega) (grV ((g.take (g.length - x)).map fun r => (r * 2 ^ y) % 2 ^ (e.2.toNat + 1))) (by simp [grV]) ?_ ?_
        · intro i v z H3 Q3 hv3 hz3 e3 q3
          simp only [grV, List.getElem?_map, List.map_map] at hv3 hz3
          cases hr : (g.take (g.length - x))[i]? with
          | none =>
            rw [hr] at hv3
            cases hv3
          | some r =>
            rw [hr] at hv3 hz3
            cases hv3
            cases hz3
            have hrb := hg.2 r (List.mem_of_mem_take (List.mem_of_getElem? hr))
            walk_at "rd"
            refine ⟨shl_ok (n := 1001) (by rw [Int.natAbs_natCast]; exact Nat.lt_of_lt_of_le hrb (Nat.pow_le_pow_right (by decide) (by omega))) (by omega), ?_⟩
            have hb : Builtin.bitAnd ((r : Int) * 2 ^ ((y : Int)).toNat) ((2 ^ (e.2.toNat + 1) - 1 : Nat) : Int) = ((r * 2 ^ y % 2 ^ (e.2.toNat + 1) : Nat) : Int) := by
              rw [Int.toNat_natCast, show ((r : Int) * 2 ^ y) = ((r * 2 ^ y : Nat) : Int) by rw [Int.natCast_mul, Int.natCast_pow]; rfl]
              exact mask_nat _ _
            rw [hb]
            exact q3 _ .refl
        · intro D2 H3 hD2 e3 f3
          refine ⟨D, D2, _, _, rfl, rfl, (e2.trans e3).get f1, f3, ?_, fun p2 hp2 => q p2 _ (((e1.trans e2).trans e3).trans (.new hp2)) (((e1.trans e2).trans e3).free hp2) ?_⟩
          · have := hg.1
            refine Nat.le_trans (show _ ≤ 2100 by simp [grV]; omega) (by decide)
          · rw [upd_same]
            simp [grV, movedM]
end
end K11

namespace K11
open PySem PySem.Spec PyProof.Rows L2 Z ZE RZ
local macro_rules | `(tactic| walk_at "rd") => `(tactic| try simp only [cxOf, tSeq, tIfS, tRet, tRetN, tAsg, tDrop, tNext, tBreak, tCont, tNever, tPar, tPar3, tAug, gName, gTup, gCons, gNil, gSub, tVar, tC, tOp, tUn, tCB, tBM, tBM0, tCons, tNil, tTest, tB, tAnd, tOr, tNot, tAndV, tOrV, tNotV, tIf, tChain,
  tTup, tLst, tCall, tMeth, tSl, tPart, tNoPart, tM1, tFmt, tJs_nil, tJs_cons, tCKw, rI0, rI, rU, rEq, rNe, scal_ii, scal_ss, scal_bb, ipI, iStr, iTup, iList, iRng1, sFld, tFld, L2.start, List.getElem?_cons_zero, List.getElem?_cons_succ, List.set_cons_zero, List.set_cons_succ, Option.some.injEq, V.int.injEq, V.bl.injEq, V.str.injEq, V.ref.injEq,
  List.cons.injEq, exists_and_left, exists_eq_left', exists_eq_left, exists_eq_right, exists_eq_right', exists_eq', exists_eq, and_true, true_and, and_self, List.map_cons, List.map_nil, List.length_cons, List.length_nil, List.replicate_succ, List.replicate_zero, List.cons_append, List.nil_append, List.append_nil,
  Nat.add_sub_cancel, Nat.reduceAdd, Nat.reduceSub, if_true, if_false, ite_true, ite_false, Bool.not_true, Bool.not_false, Bool.true_eq_false, Bool.false_eq_true, reduceIte, reduceCtorEq, false_and, exists_false, or_false, false_or, decide_true, decide_false, wipe])

section
variable {P : Program} {w : World} {K : PySem.W.Frag} {mg : Str → Option Value} {base : Heap} {C : Addr}
/-- [f x y for x, y in zip(a, b)] of two lists, the elements known -/
theorem lcZL {σ : L2.St} {H : Hp} {Q : VK} {ta : TA} {te : TE} {g : TG} {vs : List Nat} {a b : Addr} {xs ys : List V} {n : Nat} (ht : ∀ R : List V → Hp → Prop, R [.ref a, .ref b] H → ta σ H R) (h1 : SqL K H a xs) (h2 : SqL K H b ys) (l1 : xs.length = n) (l2 : ys.length = n) (hn : n ≤ 90000) (zs : List V) (hz : zs.length = n)
    (hs : ∀ (i : Nat) (T : Addr) (x y z : V) (H' : Hp) (Q' : VK), xs[i]? = some x → ys[i]? = some y → zs[i]? = some z → Ex H H' → H' T = some (.tup [x, y]) → (∀ H3, Ex H' H3 → Q' z H3) → g (.ref T) (wipe σ vs) H' fun σ2 H2 => wipe σ2 vs = wipe σ vs ∧ te σ2 H2 Q')
    (k : ∀ D H', H D = none → Ex H H' → H' D = some (.lst zs) → Q (.ref D) H') : tLc (iZip K ta) g tYes te vs σ H Q := by
  refine ht _ ⟨a, b, xs, ys, rfl, h1, h2, ?_⟩
  refine lc_all (walk_zip (K := K) (a := a) (b := b) (xs := xs) (ys := ys) (n := n) (by omega)) nob (fun _ => True) (fun i y _ => zs[i]? = some y) hn (fun H' e => ⟨e.seqL h1 id, e.seqL h2 id⟩) (fun _ z => z.elim) trivial (fun _ _ _ _ _ _ => trivial) (fun _ _ _ _ q _ => q) (fun i v H' H'' Q' hi e _ y q => ?_) fun D ws H' hD e _ f lw hw => ?_
  · obtain ⟨T, x, z, rfl, nT, rfl, e4, e5⟩ := y
    have eT : Ex H' (upd H' T (.tup [x, z])) := .new nT
    have hi2 : i < zs.length := by omega
    exact hs i T x z zs[i] _ Q' e4 e5 (List.getElem?_eq_getElem hi2) (e.trans eT) upd_same fun H3 e3 => q _ H3 (eT.trans e3) trivial (List.getElem?_eq_getElem hi2)
  · have ew : ws = zs := ext_of (lw.trans hz.symm) hw
    exact k D H' hD e (ew ▸ f)
/-- a list of grids -/
def GsL (H : Hp) (a : Addr) (gs : List Grid) : Prop := ∃ bs : List Addr, H a = some (.lst (bs.map V.ref)) ∧ bs.length = gs.length ∧ ∀ (i : Nat) (b : Addr) (g : Grid), bs[i]? = some b → gs[i]? = some g → H b = some (.lst (grV g))
abbrev s_joined : Stmt := topS 75
theorem sc_joined : FnScope ["grids", "whole", "grid", "one", "other"] ["grids"] (defScope s_joined) := ⟨rfl, rfl, rfl, by decide +kernel, rfl, by decide +kernel, by decide +kernel⟩
def spJoined (K : PySem.W.Frag) : Sp := fun vs H Q _ => ∃ (a : Addr) (gs : List Grid) (n : Nat), vs = [.ref a] ∧ GsL H a gs ∧ (1 ≤ gs.length ∧ gs.length ≤ 3) ∧ (∀ g ∈ gs, g.length = n) ∧ n ≤ 1001 ∧ ∀ l H', Ex H H' → H' l = some (.lst (grV (joinedM gs))) → Q (.ref l) H'
theorem ok_joined (B : Bl mg) (D0 : Df K mg "_joined" s_joined) : Cal P w K mg base 1 "_joined" ["grids"] (spJoined K) := by
  refine D0.cal sc_joined (fun _ _ _ _ _ _ us hl => match us, hl with | [_], _ => rfl) (fun vs H Q E h => ?_) (fun f cdv A outer s H vs Q E hr h => ?_)
  · obtain ⟨a, gs, n, rfl, _⟩ := h
    rfl
  · obtain ⟨a, gs, n, rfl, S, hn, hg, hl, q⟩ := h
    refine ⟨_, (pss_cons (ps_set (i := 1) sc_joined.nd rfl (.inl rfl) (pe_ix (r := rIxL K) ix_list (pv 0) pe_int (fun _ _ => rfl)))
      (pss_cons (ps_for PassesOwn.never rfl (pi_list (pe_slice (r := rSlL K) sl_list (pv 0) (po_some pe_int) po_none)) (pg_name (i := 2) sc_joined.nd rfl (.inl rfl)) (pss_one (ps_setLc (i := 1) (own := [("one", 3), ("other", 4)]) (g := gTup K 2 (gCons (gName 3) (gCons (gName 4) gNil))) rfl sc_joined.nd rfl rfl (sw_true rfl rfl rfl (by decide +kernel)) (pi_zip (by rfl) B.zip_ (pa_cons (pv 1) (pa_cons (pv 2) pa_nil))) (blkOk_by (N := ["grids", "whole", "grid", "one", "other"]) (sc := defScope s_joined) (by decide +kernel)) (fun _ _ _ _ _ => (by exact (pg_tup rfl (pgs_cons (pg_name (i := 3) sc_joined.nd rfl (.inl rfl)) (pgs_cons (pg_name (i := 4) sc_joined.nd rfl (.inl rfl)) pgs_nil))))) (fun _ _ _ _ _ => pts_nil) (fun _ _ _ _ _ => (pe_op op_or (pv 3) (pv 4))))))
      (pss_one (ps_ret (pv 1))))), ?_⟩
    walk_at "rd"
    obtain ⟨bs, SA, hbl, hbs⟩ := S
    obtain ⟨g0, gs', rfl⟩ : ∃ g0 gs', gs = g0 :: gs' := by
      cases gs with
      | nil => exact absurd hn.1 (by decide)
      | cons g gs => exact ⟨g, gs, rfl⟩
    obtain ⟨b0, bs', rfl⟩ : ∃ b0 bs', bs = b0 :: bs' := by
      cases bs with
      | nil => cases hbl
      | cons b bs => exact ⟨b, bs, rfl⟩
    have hbl' : bs'.length = gs'.length := by simpa using hbl
    have S0 := hbs 0 b0 g0 rfl rfl
    have hbs' : ∀ (i : Nat) (b : Addr) (g : Grid), bs'[i]? = some b → gs'[i]? = some g → H b = some (.lst (grV g)) := fun i b g h1 h2 => hbs (i + 1) b g h1 h2
    refine ⟨a, _, 0, _, rfl, rfl, sqL SA, atI_nat (j := 0) rfl, ?_⟩
    refine forLm (fun p xs H1 => Ex H H1 ∧ xs = bs'.map V.ref ∧ H1 p = some (.lst xs)) (fun R hR => ?_) (fun p xs H1 c => sqL c.2.2) (fun p xs i σ' H' => ∃ (y2 y3 y4 : Option V) (b : Addr) (wh : Grid), σ' = [some (.ref a), some (.ref b), y2, y3, y4] ∧ Ex H H' ∧ xs = bs'.map V.ref ∧ H' p = some (.lst xs) ∧ H' b = some (.lst (grV wh)) ∧ wh.length = n ∧ wh = (gs'.take i).foldl (fun w h => List.zipWith (fun a b => a ||| b) w h) g0) (fun p xs H1 ⟨e1, h1, h2⟩ => ⟨_, _, _, b0, g0, rfl, e1, h1, h2, e1.get S0, hg g0 (List.mem_cons_self ..), rfl⟩) (fun p xs i σ' H' ⟨_, _, _, _, _, _, _, _, h, _⟩ => sqL h) ?_ ?_
    · exact ⟨_, rfl, 1, rfl, a, _, rfl, sqL SA, fun p hp => hR p _ _ ⟨.new hp, rfl, by rw [upd_same, List.map_cons, cut_one]⟩⟩
    · rintro p xs i x σ' H' hx ⟨y2, y3, y4, b, wh, rfl, e, hxs, f, Sb, hwl, hw⟩
      subst hxs
      rw [List.getElem?_map] at hx
      cases hb : bs'[i]? with
      | none =>
        rw [hb] at hx
        cases hx
      | some b2 =>
        rw [hb] at hx
        cases hx
        have hi : i < gs'.length := by
          have := (List.getElem?_eq_some_iff.mp hb).1
          omega
        have hgi := List.getElem?_eq_getElem hi
        generalize gs'[i] = g2 at hgi
        have S2 := hbs' i b2 g2 hb hgi
        have hg2 := hg g2 (List.mem_cons_of_mem _ (List.mem_of_getElem? hgi))
        have hw2 : (gs'.take (i + 1)).foldl (fun w h => List.zipWith (fun a b => a ||| b) w h) g0 = List.zipWith (fun a b => a ||| b) wh g2 := by
          rw [List.take_add_one, hgi, Option.toList_some, List.foldl_append, ← hw]
          rfl
        walk_at "rd"
        refine lcZL (a := b) (b := b2) (xs := grV wh) (ys := grV g2) (n := n) (fun R h => ⟨_, rfl, _, rfl, h⟩) (sqL Sb) (sqL (e.get S2)) (by simp [grV, hwl]) (by simp [grV, hg2]) (by omega) (grV (List.zipWith (fun a b => a ||| b) wh g2)) (by simp [grV, hwl, hg2]) ?_ ?_
        · intro i2 T x y z H2 Q2 hx hy hz e2 fT q2
          simp only [grV, List.getElem?_map, Option.map_eq_some_iff] at hx hy hz
          obtain ⟨r1, h1, rfl⟩ := hx
          obtain ⟨r2, h2, rfl⟩ := hy
          obtain ⟨r3, h3, rfl⟩ := hz
          rw [List.getElem?_zipWith, h1, h2] at h3
          cases h3
          walk_at "rd"
          refine ⟨_, sqT fT, rfl, _, _, rfl, _, _, rfl, rfl, ?_⟩
          walk_at "rd"
          rw [bitOr_nat]
          exact q2 _ .refl
        · intro D H2 hD e2 f2
          exact ⟨_, _, _, D, ⟨rfl, rfl, rfl, rfl⟩, e.trans e2, e2.get f, _, f2, by simp [hwl, hg2], hw2.symm⟩
    · rintro p xs σ' H' ⟨y2, y3, y4, b, wh, rfl, e, hxs, f, Sb, hwl, hw⟩
      walk_at "rd"
      rw [hxs, List.length_map, hbl', List.take_length] at hw
      refine q b H' e ?_
      rw [hw] at Sb
      exact Sb
end
end K11

namespace K11
open PySem PySem.Spec PyProof.Rows L2 Z ZE RZ
local macro_rules | `(tactic| walk_at "rd") => `(tactic| try simp only [cxOf, tSeq, tIfS, tRet, tRetN, tAsg, tDrop, tNext, tBreak, tCont, tNever, tPar, tPar3, tAug, gName, gTup, gCons, gNil, gSub, tVar, tC, tOp, tUn, tCB, tBM, tBM0, tCons, tNil, tTest, tB, tAnd, tOr, tNot, tAndV, tOrV, tNotV, tIf, tChain,
  tTup, tLst, tCall, tMeth, tSl, tPart, tNoPart, tM1, tFmt, tJs_nil, tJs_cons, tCKw, rI0, rI, rU, rEq, rNe, scal_ii, scal_ss, scal_bb, ipI, iStr, iTup, iList, iRng1, sFld, tFld, L2.start, List.getElem?_cons_zero, List.getElem?_cons_succ, List.set_cons_zero, List.set_cons_succ, Option.some.injEq, V.int.injEq, V.bl.injEq, V.str.injEq, V.ref.injEq,
  List.cons.injEq, exists_and_left, exists_eq_left', exists_eq_left, exists_eq_right, exists_eq_right', exists_eq', exists_eq, and_true, true_and, and_self, List.map_cons, List.map_nil, List.length_cons, List.length_nil, List.replicate_succ, List.replicate_zero, List.cons_append, List.nil_append, List.append_nil,
  Nat.add_sub_cancel, Nat.reduceAdd, Nat.reduceSub, if_true, if_false, ite_true, ite_false, Bool.not_true, Bool.not_false, Bool.true_eq_false, Bool.false_eq_true, reduceIte, reduceCtorEq, false_and, exists_false, or_false, false_or, decide_true, decide_false, wipe])

section
variable {P : Program} {w : World} {K : PySem.W.Frag} {mg : Str → Option Value} {base : Heap} {C : Addr}
theorem moved_len (g : Grid) (x y ey : Nat) : (movedM g x y ey).length = g.length := by
  unfold movedM
  rw [List.length_append, List.length_replicate, List.length_map, List.length_take]
  omega
theorem moved_b {g : Grid} {x y ey : Nat} (h : GrB ey g) : GrB ey (movedM g x y ey) := by
  refine ⟨by rw [moved_len]; exact h.1, fun r hr => ?_⟩
  unfold movedM at hr
  rcases List.mem_append.mp hr with h1 | h1
  · rw [List.eq_of_mem_replicate h1]
    exact Nat.two_pow_pos _
  · obtain ⟨s, _, rfl⟩ := List.mem_map.mp h1
    exact Nat.mod_lt _ (Nat.two_pow_pos _)
theorem zor_b {ey : Nat} : ∀ {g h : Grid}, (∀ r ∈ g, r < 2 ^ (ey + 1)) → (∀ r ∈ h, r < 2 ^ (ey + 1)) → ∀ r ∈ List.zipWith (fun a b => a ||| b) g h, r < 2 ^ (ey + 1)
  | [], _, _, _, r, hr => by simp at hr
  | _ :: _, [], _, _, r, hr => by simp at hr
  | a :: g, b :: h, h1, h2, r, hr => by
    rw [List.zipWith_cons_cons] at hr
    rcases List.mem_cons.mp hr with rfl | hr
    · exact Nat.or_lt_two_pow (h1 _ (List.mem_cons_self ..)) (h2 _ (List.mem_cons_self ..))
    · exact zor_b (fun x hx => h1 x (List.mem_cons_of_mem _ hx)) (fun x hx => h2 x (List.mem_cons_of_mem _ hx)) r hr
theorem joinF_b {ey n : Nat} : ∀ (gs : List Grid) {g : Grid}, (GrB ey g ∧ g.length = n) → (∀ h ∈ gs, GrB ey h ∧ h.length = n) → GrB ey (gs.foldl (fun w h => List.zipWith (fun a b => a ||| b) w h) g) ∧ (gs.foldl (fun w h => List.zipWith (fun a b => a ||| b) w h) g).length = n
  | [], _, h, _ => h
  | x :: gs, g, h, hs => by
    have h1 := hs x (List.mem_cons_self ..)
    refine joinF_b gs ⟨⟨?_, zor_b h.1.2 h1.1.2⟩, ?_⟩ fun y hy => hs y (List.mem_cons_of_mem _ hy)
    · have := h.1.1
      rw [List.length_zipWith]
      omega
    · rw [List.length_zipWith, h.2, h1.2, Nat.min_self]
theorem joined_b {ey n : Nat} {gs : List Grid} (h0 : gs ≠ []) (hs : ∀ h ∈ gs, GrB ey h ∧ h.length = n) : GrB ey (joinedM gs) ∧ (joinedM gs).length = n := by
  cases gs with
  | nil => exact absurd rfl h0
  | cons g gs => exact joinF_b gs (hs g (List.mem_cons_self ..)) fun y hy => hs y (List.mem_cons_of_mem _ hy)
def mu4 (m : Nat) (σ : L2.St) : Nat := match σ[4]? with
  | some (some (V.int x)) => m - x.toNat
  | _ => 0
abbrev s_given : Stmt := topS 73
theorem sc_given : FnScope ["grid", "many", "points", "end", "given", "more", "x", "y"] ["grid", "many", "points", "end"] (defScope s_given) := ⟨rfl, rfl, rfl, by decide +kernel, rfl, by decide +kernel, by decide +kernel⟩
def spGiven (K : PySem.W.Frag) : Sp := fun vs H Q _ => ∃ (a : Addr) (g : Grid) (many : Nat) (pl : Addr) (ps : List V) (pts : List Pt) (v : V) (e : Pt), vs = [.ref a, .int (many : Int), .ref pl, v] ∧ H a = some (.lst (grV g)) ∧ DT K H v (ptD e) ∧ SqL K H pl ps ∧ DTs K H ps (pts.map ptD) ∧ (0 ≤ e.2 ∧ e.2 ≤ 1000) ∧ GrB e.2.toNat g ∧ many ≤ 40 ∧ (1 ≤ pts.length ∧ pts.length ≤ 3) ∧ (∀ p ∈ pts, (0 ≤ p.1 ∧ p.1 ≤ 6) ∧ (0 ≤ p.2 ∧ p.2 ≤ 6)) ∧ ∀ l H', Ex H H' → H' l = some (.lst (grV (givenM g many pts e.2.toNat))) → Q (.ref l) H'
theorem ok_given (B : Bl mg) (c_moved : Cal P w K mg base 1 "_moved" ["grid", "x", "y", "end"] (spMoved K)) (c_joined : Cal P w K mg base 1 "_joined" ["grids"] (spJoined K)) (D0 : Df K mg "_given" s_given) : Cal P w K mg base 2 "_given" ["grid", "many", "points", "end"] (spGiven K) := by
  refine D0.cal sc_given (fun _ _ _ _ _ _ us hl => match us, hl with | [_, _, _, _], _ => rfl) (fun vs H Q E h => ?_) (fun f cdv A outer s H vs Q E hr h => ?_)
  · obtain ⟨a, g, many, pl, ps, pts, v, e, rfl, _⟩ := h
    rfl
  · obtain ⟨a, g, many, pl, ps, pts, v, ep, rfl, S, hv, SP, dps, he, hg, hm, hpl, hpt, q⟩ := h
    refine ⟨_, (pss_cons (ps_set (i := 4) sc_given.nd rfl (.inl rfl) pe_int)
      (pss_cons (ps_while PassesOwn.never (pt_cmpR op_lt (pv 4) (pv 1) (nomark _)) (pss_cons (ps_set (i := 5) sc_given.nd rfl (.inr rfl) (pe_callB (call_min2 rfl) (by rfl) B.min_ (by decide +kernel) (pa_cons (pe_op op_sub (pv 1) (pv 4)) (pa_cons (pe_op op_add (pe_op op_fdiv (pv 4) pe_int) pe_int) pa_nil))))
      (pss_cons (ps_set (i := 0) sc_given.nd rfl (.inr rfl) (pe_cal c_joined hr (by decide) rfl (pa_cons (pe_lc (own := [("x", 6), ("y", 7)]) (g := gTup K 2 (gCons (gName 6) (gCons (gName 7) gNil))) rfl sc_given.nd (pi_list (pv 2)) (blkOk_by (N := ["grid", "many", "points", "end", "given", "more", "x", "y"]) (sc := defScope s_given) (by decide +kernel)) (fun _ _ _ _ _ => (by exact (pg_tup rfl (pgs_cons (pg_name (i := 6) sc_given.nd rfl (.inl rfl)) (pgs_cons (pg_name (i := 7) sc_given.nd rfl (.inl rfl)) pgs_nil))))) (fun _ _ _ _ _ => pts_nil) (fun _ _ _ _ _ => (pe_cal c_moved hr (by decide) rfl (pa_cons (pv 0) (pa_cons (pe_op op_mul (pv 5) (pv 6)) (pa_cons (pe_op op_mul (pv 5) (pv 7)) (pa_cons (pv 3) pa_nil))))))) pa_nil)))
      (pss_one (ps_aug (i := 4) sc_given.nd rfl (.inl rfl) (pv 5) ip_add)))))
      (pss_one (ps_ret (pv 0))))), ?_⟩
    walk_at "rd"
    refine while_by (fun σ' H' => ∃ (n : Nat) (gv : Nat) (b : Addr) (gr : Grid) (y5 y6 y7 : Option V), σ' = [some (.ref b), some (.int (many : Int)), some (.ref pl), some v, some (.int (gv : Int)), y5, y6, y7] ∧ Ex H H' ∧ H' b = some (.lst (grV gr)) ∧ GrB ep.2.toNat gr ∧ many - gv ≤ n ∧ givenF n gr many gv pts ep.2.toNat = givenM g many pts ep.2.toNat) (fun σ' _ => mu4 many σ') ⟨many, 0, a, g, _, _, _, rfl, .refl, S, hg, by omega, rfl⟩ ?_ ?_
    · rintro σ' H' ⟨n, gv, b, gr, y5, y6, y7, rfl, e, Sb, hgr, hn, heq⟩
      walk_at "rd"
      by_cases hlt : (gv : Int) < (many : Int)
      · rw [decide_eq_true hlt]
        obtain ⟨k, rfl⟩ : ∃ k, n = k + 1 := ⟨n - 1, by omega⟩
        rw [givenF, if_pos (by omega)] at heq
        refine iteT ⟨⟨by omega, by omega⟩, _, _, ⟨rfl, rfl⟩, ?_⟩
        have hmore : (if (gv : Int) / 2 + 1 < (many : Int) - (gv : Int) then (gv : Int) / 2 + 1 else (many : Int) - (gv : Int)) = ((min (many - gv) (gv / 2 + 1) : Nat) : Int) := by split <;> omega
        have hml : min (many - gv) (gv / 2 + 1) ≤ 40 := by omega
        have hm0 : 1 ≤ min (many - gv) (gv / 2 + 1) := by omega
        simp only [hmore]
        generalize min (many - gv) (gv / 2 + 1) = mo at hml hm0 heq ⊢
        have hdl := dps.lenM
        refine lcLn (a := pl) (xs := ps) (fun R h => ⟨_, rfl, h⟩) (e.seqL SP id) (by omega) (pts.map fun p => grV (movedM gr (mo * p.1.toNat) (mo * p.2.toNat) ep.2.toNat)) (by rw [List.length_map, hdl]) ?_ ?_
        · intro i x zs H2 Q2 hx hz e2 q2
          obtain ⟨p, hp, hpd⟩ := dps.getM hx
          rw [List.getElem?_map, hp] at hz
          cases hz
          have hpb := hpt p (List.mem_of_getElem? hp)
          obtain ⟨c, rfl, Sc⟩ := DT.pair hpd
          walk_at "rd"
          refine ⟨_, (e.trans e2).seqT Sc, rfl, _, _, rfl, _, _, rfl, rfl, ?_⟩
          walk_at "rd"
          have h1 : (mo : Int) * p.1 = ((mo * p.1.toNat : Nat) : Int) := by rw [Int.natCast_mul, Int.toNat_of_nonneg hpb.1.1]
          have h2 : (mo : Int) * p.2 = ((mo * p.2.toNat : Nat) : Int) := by rw [Int.natCast_mul, Int.toNat_of_nonneg hpb.2.1]
          have m1 : mo * p.1.toNat ≤ 40 * 6 := Nat.mul_le_mul hml (by omega)
          have m2 : mo * p.2.toNat ≤ 40 * 6 := Nat.mul_le_mul hml (by omega)
          rw [h1, h2]
          exact ⟨.inl ⟨by omega, by omega⟩, .inl ⟨by omega, by omega⟩, b, gr, _, _, v, ep, rfl, sqL (e2.get Sb), hv.mono (e.trans e2).any, he, hgr, ⟨by omega, by omega⟩, fun l H3 e3 hl f3 => q2 l H3 e3 hl f3⟩
        · intro D bs H2 hD e2 f2 hbl hbs
          have hgs : ∀ h ∈ pts.map (fun p => movedM gr (mo * p.1.toNat) (mo * p.2.toNat) ep.2.toNat), GrB ep.2.toNat h ∧ h.length = gr.length := fun h hh => by
            obtain ⟨p, _, rfl⟩ := List.mem_map.mp hh
            exact ⟨moved_b hgr, moved_len ..⟩
          have hne : pts.map (fun p => movedM gr (mo * p.1.toNat) (mo * p.2.toNat) ep.2.toNat) ≠ [] := fun z => by
            have := congrArg List.length z
            rw [List.length_map, List.length_nil] at this
            omega
          have hjb := joined_b hne hgs
          refine ⟨D, _, gr.length, rfl, ⟨bs, f2, by rw [hbl, List.length_map, List.length_map], fun i c g2 h1 h2 => ?_⟩, by rw [List.length_map]; exact hpl, fun g2 h2 => (hgs g2 h2).2, hgr.1, fun l H3 e3 S3 => ⟨⟨k, gv + mo, l, _, _, _, _, ⟨rfl, by omega, rfl, rfl, rfl⟩, (e.trans e2).trans e3, S3, hjb.1, by omega, heq⟩, ?_⟩⟩
          · refine hbs i c (grV g2) h1 ?_
            rw [List.getElem?_map] at h2 ⊢
            cases hp : pts[i]? with
            | none =>
              rw [hp] at h2
              cases h2
            | some p =>
              rw [hp] at h2
              cases h2
              rfl
          · show many - ((gv : Int) + (mo : Int)).toNat < many - ((gv : Int)).toNat
            omega
      · rw [decide_eq_false hlt]
        refine iteF ?_
        have hres : gr = givenM g many pts ep.2.toNat := by
          rw [← heq]
          cases n with
          | zero => rfl
          | succ n => rw [givenF, if_neg (by omega)]
        rw [hres] at Sb
        exact q b H' e Sb
    · intro σ H Q Q' k h
      obtain ⟨v1, h1, v2, h2, i, j, e1, e2, b, h3, h4⟩ := h
      exact ⟨v1, h1, v2, h2, i, j, e1, e2, b, h3, k _ _ h4⟩
end
end K11

namespace K11
open PySem PySem.Spec PyProof.Rows L2 Z ZE RZ
local macro_rules | `(tactic| walk_at "rd") => `(tactic| try simp only [cxOf, tSeq, tIfS, tRet, tRetN, tAsg, tDrop, tNext, tBreak, tCont, tNever, tPar, tPar3, tAug, gName, gTup, gCons, gNil, gSub, tVar, tC, tOp, tUn, tCB, tBM, tBM0, tCons, tNil, tTest, tB, tAnd, tOr, tNot, tAndV, tOrV, tNotV, tIf, tChain,
  tTup, tLst, tCall, tMeth, tSl, tPart, tNoPart, tM1, tFmt, tJs_nil, tJs_cons, tCKw, rI0, rI, rU, rEq, rNe, scal_ii, scal_ss, scal_bb, ipI, iStr, iTup, iList, iRng1, sFld, tFld, L2.start, List.getElem?_cons_zero, List.getElem?_cons_succ, List.set_cons_zero, List.set_cons_succ, Option.some.injEq, V.int.injEq, V.bl.injEq, V.str.injEq, V.ref.injEq,
  List.cons.injEq, exists_and_left, exists_eq_left', exists_eq_left, exists_eq_right, exists_eq_right', exists_eq', exists_eq, and_true, true_and, and_self, List.map_cons, List.map_nil, List.length_cons, List.length_nil, List.replicate_succ, List.replicate_zero, List.cons_append, List.nil_append, List.append_nil,
  Nat.add_sub_cancel, Nat.reduceAdd, Nat.reduceSub, if_true, if_false, ite_true, ite_false, Bool.not_true, Bool.not_false, Bool.true_eq_false, Bool.false_eq_true, reduceIte, reduceCtorEq, false_and, exists_false, or_false, false_or, decide_true, decide_false, wipe])

section
variable {P : Program} {w : World} {K : PySem.W.Frag} {mg : Str → Option Value} {base : Heap} {C : Addr}
abbrev s_stands : Stmt := topS 76
theorem sc_stands : FnScope ["grid", "point", "x", "y"] ["grid", "point"] (defScope s_stands) := ⟨rfl, rfl, rfl, by decide +kernel, rfl, by decide +kernel, by decide +kernel⟩
def spStands (K : PySem.W.Frag) : Sp := fun vs H Q _ => ∃ (a : Addr) (g : Grid) (v : V) (p : Pt), vs = [.ref a, v] ∧ SqL K H a (grV g) ∧ DT K H v (ptD p) ∧ p.1 < g.length ∧ Q (.bl (standsM g p)) H
theorem ok_stands (D0 : Df K mg "_stands" s_stands) : Cal P w K mg base 1 "_stands" ["grid", "point"] (spStands K) := by
  refine D0.cal sc_stands (fun _ _ _ _ _ _ us hl => match us, hl with | [_, _], _ => rfl) (fun vs H Q E h => ?_) (fun f cdv A outer s H vs Q E hr h => ?_)
  · obtain ⟨a, g, v, p, rfl, _⟩ := h
    rfl
  · obtain ⟨a, g, v, p, rfl, S, hv, hl, q⟩ := h
    refine ⟨_, (pss_cons (ps_asg (pv 1) (pg_tup rfl (pgs_cons (pg_name (i := 2) sc_stands.nd rfl (.inl rfl)) (pgs_cons (pg_name (i := 3) sc_stands.nd rfl (.inl rfl)) pgs_nil))))
      (pss_one (ps_ret (pe_and (pe_cmpR op_ge (pv 2) pe_int (nomark _)) (pe_and (pe_cmpR op_ge (pv 3) pe_int (nomark _)) (pe_one (pe_cmpR op_eq (pe_op op_and (pe_op op_shr (pe_ix (r := rIxL K) ix_list (pv 0) (pv 2) (fun _ _ => rfl)) (pv 3)) pe_int) pe_int (nomark _)))))))), ?_⟩
    walk_at "rd"
    obtain ⟨c, rfl, Sc⟩ := DT.pair hv
    obtain ⟨x, y⟩ := p
    refine ⟨c, rfl, _, Sc, rfl, _, _, rfl, _, _, rfl, rfl, x, rfl, ?_⟩
    by_cases hx : 0 ≤ x
    · rw [decide_eq_true hx]
      refine iteT ⟨y, rfl, ?_⟩
      by_cases hy : 0 ≤ y
      · rw [decide_eq_true hy]
        have hl2 : x < g.length := hl
        have hxl : x.toNat < g.length := by omega
        obtain ⟨i, rfl⟩ : ∃ i : Nat, x = (i : Int) := ⟨x.toNat, by omega⟩
        obtain ⟨j, rfl⟩ : ∃ j : Nat, y = (j : Int) := ⟨y.toNat, by omega⟩
        rw [Int.toNat_natCast] at hxl
        refine iteT ⟨a, _, (i : Int), _, rfl, rfl, S, atI_nat (j := i) (v := .int ((g[i] : Nat) : Int)) (by unfold grV; rw [List.getElem?_map, List.getElem?_eq_getElem hxl]; rfl), _, rfl, _, rfl, hy, ?_⟩
        have h : standsM g ((i : Int), (j : Int)) = (g[i]).testBit j := by
          unfold standsM
          simp only [decide_eq_true hx, decide_eq_true hy, Int.toNat_natCast, Bool.true_and]
          rw [List.getD_eq_getElem?_getD, List.getElem?_eq_getElem hxl]
          rfl
        rw [h] at q
        rw [bit_is]
        exact q
      · rw [decide_eq_false hy]
        have h : standsM g (x, y) = false := by
          unfold standsM
          simp only [decide_eq_false hy, Bool.and_false, Bool.false_and]
        rw [h] at q
        exact iteF q
    · rw [decide_eq_false hx]
      have h : standsM g (x, y) = false := by
        unfold standsM
        simp only [decide_eq_false hx, Bool.false_and]
      rw [h] at q
      exact iteF q
end
end K11

namespace K11
open PySem PySem.Spec PyProof.Rows L2 Z ZE RZ
local macro_rules | `(tactic| walk_at "rd") => `(tactic| try simp only [cxOf, tSeq, tIfS, tRet, tRetN, tAsg, tDrop, tNext, tBreak, tCont, tNever, tPar, tPar3, tAug, gName, gTup, gCons, gNil, gSub, tVar, tC, tOp, tUn, tCB, tBM, tBM0, tCons, tNil, tTest, tB, tAnd, tOr, tNot, tAndV, tOrV, tNotV, tIf, tChain,
  tTup, tLst, tCall, tMeth, tSl, tPart, tNoPart, tM1, tFmt, tJs_nil, tJs_cons, tCKw, rI0, rI, rU, rEq, rNe, scal_ii, scal_ss, scal_bb, ipI, iStr, iTup, iList, iRng1, sFld, tFld, L2.start, List.getElem?_cons_zero, List.getElem?_cons_succ, List.set_cons_zero, List.set_cons_succ, Option.some.injEq, V.int.injEq, V.bl.injEq, V.str.injEq, V.ref.injEq,
  List.cons.injEq, exists_and_left, exists_eq_left', exists_eq_left, exists_eq_right, exists_eq_right', exists_eq', exists_eq, and_true, true_and, and_self, List.map_cons, List.map_nil, List.length_cons, List.length_nil, List.replicate_succ, List.replicate_zero, List.cons_append, List.nil_append, List.append_nil,
  Nat.add_sub_cancel, Nat.reduceAdd, Nat.reduceSub, if_true, if_false, ite_true, ite_false, Bool.not_true, Bool.not_false, Bool.true_eq_false, Bool.false_eq_true, reduceIte, reduceCtorEq, false_and, exists_false, or_false, false_or, decide_true, decide_false, wipe])

section
variable {P : Program} {w : World} {K : PySem.W.Frag} {mg : Str → Option Value} {base : Heap} {C : Addr}
theorem givenF_b {ey n : Nat} {pts : List Pt} (hp : pts ≠ []) : ∀ (f : Nat) {g : Grid} {many gv : Nat}, GrB ey g ∧ g.length = n → GrB ey (givenF f g many gv pts ey) ∧ (givenF f g many gv pts ey).length = n
  | 0, _, _, _, h => h
  | f + 1, g, many, gv, h => by
    unfold givenF
    split
    · refine givenF_b hp f (joined_b (by simpa using hp) fun x hx => ?_)
      obtain ⟨p, _, rfl⟩ := List.mem_map.mp hx
      exact ⟨moved_b h.1, (moved_len ..).trans h.2⟩
    · exact h
theorem grid0_b {ex ey : Nat} (h : ex ≤ 1000) : GrB ey (grid0 ex) ∧ (grid0 ex).length = ex + 1 := by
  have hl : (grid0 ex).length = ex + 1 := by simp [grid0]
  refine ⟨⟨by omega, fun r hr => ?_⟩, hl⟩
  rcases List.mem_or_eq_of_mem_set hr with h1 | h1
  · rw [List.eq_of_mem_replicate h1]
    exact Nat.two_pow_pos _
  · rw [h1]
    exact Nat.one_lt_two_pow (by omega)
theorem gr_ref {g : Grid} {bs : List Addr} (h : bs ≠ []) : grV g ≠ bs.map V.ref := by
  cases bs with
  | nil => exact absurd rfl h
  | cons b bs =>
    intro z
    cases g with
    | nil => cases z
    | cons r g => cases z
theorem Kd.at1 (k : Kd) {K : PySem.W.Frag} {H : Hp} {v : V} (h : DT K H v k.d) : ∃ c xs, v = .ref c ∧ SqT K H c xs ∧ atI xs 1 = some (.int k.c) := by
  obtain ⟨c, xs, rfl, S, s⟩ := dtT h
  cases s with
  | cons z1 s => cases s with
    | cons z2 s =>
      cases z2
      exact ⟨c, _, rfl, S, atI_nat (j := 1) rfl⟩
abbrev s_grids : Stmt := topS 72
theorem sc_grids : FnScope ["order", "boxes", "chances", "end", "grid", "grids", "kind", "row", "place", "person", "point"] ["order", "boxes", "chances", "end"] (defScope s_grids) := ⟨rfl, rfl, rfl, by decide +kernel, rfl, by decide +kernel, by decide +kernel⟩
def spGrids (K : PySem.W.Frag) (C : Addr) : Sp := fun vs H Q _ => ∃ (x : Addr) (o : Od) (n : Nat) (v : V) (ch : List Row) (ve : V) (e : Pt), vs = [.ref x, .int (n : Int), v, ve] ∧ OrdAt K C H x o ∧ n ≤ 12 ∧ DT K H v (chD ch) ∧ ChOk ch ∧ ch.length = o.ks.length ∧ DT K H ve (ptD e) ∧ (0 ≤ e.1 ∧ e.1 ≤ 1000) ∧ (0 ≤ e.2 ∧ e.2 ≤ 1000) ∧ ∀ l H', Ex H H' → GsL H' l (gridsM o n ch e) → Q (.ref l) H'
theorem ok_grids (B : Bl mg) (p_kinds : Prp P w K mg base 1 C "kinds" "_kinds") (c_given : Cal P w K mg base 2 "_given" ["grid", "many", "points", "end"] (spGiven K)) (D0 : Df K mg "_grids" s_grids) : Cal P w K mg base 3 "_grids" ["order", "boxes", "chances", "end"] (spGrids K C) := by
  refine D0.cal sc_grids (fun _ _ _ _ _ _ us hl => match us, hl with | [_, _, _, _], _ => rfl) (fun vs H Q E h => ?_) (fun f cdv A outer s H vs Q E hr h => ?_)
  · obtain ⟨x, o, n, v, ch, ve, e, rfl, _⟩ := h
    rfl
  · obtain ⟨x, o, n, v, ch, ve, ep, rfl, O, hn, hv, hc, hl, hve, he1, he2, q⟩ := h
    refine ⟨_, (pss_cons (ps_setLc (i := 4) (own := [("place", 8)]) (g := gName 8) rfl sc_grids.nd rfl rfl (sw_true rfl rfl rfl (by decide +kernel)) (pi_range1 rfl B.range_ (pa_cons (pe_op op_add (pe_ix (r := rIxT K) ix_tup (pv 3) pe_int (fun _ _ => rfl)) pe_int) pa_nil)) (blkOk_by (N := ["order", "boxes", "chances", "end", "grid", "grids", "kind", "row", "place", "person", "point"]) (sc := defScope s_grids) (by decide +kernel)) (fun _ _ _ _ _ => (pg_name (i := 8) sc_grids.nd rfl (.inl rfl))) (fun _ _ _ _ _ => pts_nil) (fun _ _ _ _ _ => pe_int))
      (pss_cons (ps_asg pe_int (pg_sub (pv 4) pe_int set_list))
      (pss_cons (ps_set (i := 5) sc_grids.nd rfl (.inl rfl) (pe_lst (pa_cons (pv 4) pa_nil)))
      (pss_cons (ps_for PassesOwn.never rfl (pi_zipA (by rfl) B.zip_ (pa_cons (pe_prp p_kinds hr (by decide) (pv 0)) (pa_cons (pv 2) pa_nil))) (pg_tup rfl (pgs_cons (pg_name (i := 6) sc_grids.nd rfl (.inl rfl)) (pgs_cons (pg_name (i := 7) sc_grids.nd rfl (.inl rfl)) pgs_nil))) (pss_cons (ps_set (i := 4) sc_grids.nd rfl (.inl rfl) (pe_cal c_given hr (by decide) rfl (pa_cons (pv 4) (pa_cons (pe_op op_mul (pv 1) (pe_ix (r := rIxT K) ix_tup (pv 6) pe_int (fun _ _ => rfl))) (pa_cons (pe_lc (own := [("person", 9), ("point", 10)]) (g := gTup K 2 (gCons (gName 9) (gCons (gName 10) gNil))) rfl sc_grids.nd (pi_tup (pv 7)) (blkOk_by (N := ["order", "boxes", "chances", "end", "grid", "grids", "kind", "row", "place", "person", "point"]) (sc := defScope s_grids) (by decide +kernel)) (fun _ _ _ _ _ => (by exact (pg_tup rfl (pgs_cons (pg_name (i := 9) sc_grids.nd rfl (.inl rfl)) (pgs_cons (pg_name (i := 10) sc_grids.nd rfl (.inl rfl)) pgs_nil))))) (fun _ _ _ _ _ => pts_nil) (fun _ _ _ _ _ => (pv 10))) (pa_cons (pv 3) pa_nil))))))
      (pss_one (ps_expr (pe_bm PySem.F.plainAttrs_list PySem.F.slot_list_append PySem.F.type_list_append mt_append (pv 5) (pa_cons (pv 4) pa_nil))))))
      (pss_one (ps_ret (pv 5))))))), ?_⟩
    walk_at "rd"
    obtain ⟨pe, rfl, Se⟩ := DT.pair hve
    obtain ⟨va, vxs, rfl, Sv, dv⟩ := dtT hv
    have hex : ep.1 = (ep.1.toNat : Int) := by omega
    refine lcRf (ep.1.toNat + 1) (fun R h => ?_) (by omega) (List.replicate (ep.1.toNat + 1) (.int 0)) (by simp) ?_ ?_
    · refine ⟨.ref pe, rfl, pe, _, 0, _, rfl, rfl, Se, atI_nat (j := 0) rfl, _, _, rfl, rfl, ?_⟩
      show R [V.int (ep.1 + 1)] H
      rw [show ep.1 + 1 = ((ep.1.toNat + 1 : Nat) : Int) by omega]
      exact h
    · intro i z H' Q' hz e1 q'
      walk_at "rd"
      have := List.eq_of_mem_replicate (List.mem_of_getElem? hz)
      subst this
      exact q' _ .refl
    · intro D H1 hD e1 f1
      refine ⟨D, _, 0, 0, rfl, rfl, f1, by rw [List.length_replicate, ixN, if_pos (by decide), if_pos (by omega)]; rfl, ?_⟩
      have hg0 : (List.replicate (ep.1.toNat + 1) (V.int 0)).set 0 (V.int 1) = grV (grid0 ep.1.toNat) := by
        unfold grV grid0
        rw [List.map_set, List.map_replicate]
        rfl
      rw [hg0]
      have e2 : Ex H (upd H1 D (.lst (grV (grid0 ep.1.toNat)))) := e1.put f1 (.inl hD)
      have f2 := upd_same (H := H1) (a := D) (o := .lst (grV (grid0 ep.1.toNat)))
      generalize upd H1 D (.lst (grV (grid0 ep.1.toNat))) = H2 at e2 f2 ⊢
      refine ⟨by decide, fun L hL => ?_⟩
      have hk1 := O.ok.k1
      have hcl := hc.l
      refine forZd (fun b c H3 => H3 = upd H2 L (.lst [.ref D]) ∧ c = va ∧ ∃ kx, SqT K H3 b kx ∧ DTs K H3 kx (o.ks.map Kd.d)) (fun R h => knd rfl (O.up (e2.trans (.new hL)) id) fun c kx Sk dk => ?_) ?_
      · exact ⟨_, rfl, h _ _ _ ⟨rfl, rfl, kx, Sk, dk⟩⟩
      rintro b0 c H3 ⟨rfl, rfl, kx, Sk, dk⟩
      have e3 : Ex H (upd H2 L (.lst [.ref D])) := e2.trans (.new hL)
      have f3 := upd_same (H := H2) (a := L) (o := .lst [.ref D])
      have fD := (Gr.new (m := nob) (o := .lst [.ref D]) hL).get f2
      have hLH : H L = none := e2.free hL
      generalize upd H2 L (.lst [.ref D]) = H3 at e3 f3 fD Sk dk ⊢
      have hkl := dk.lenM
      have hvl := dv.lenM
      generalize hfs : (fun i : Nat => ((o.ks.zip ch).take i).foldl (gridStep n ep.2.toNat) (grid0 ep.1.toNat, [grid0 ep.1.toNat])) = fs
      have hf0 : fs 0 = (grid0 ep.1.toNat, [grid0 ep.1.toNat]) := by rw [← hfs]; rfl
      have hg0b := grid0_b (ex := ep.1.toNat) (ey := ep.2.toNat) (by omega)
      refine forZT (n := o.ks.length) (fun R h => h) Sk (e3.seqT Sv) hkl (by omega) (fun i σ' H' => ∃ (y6 y7 y8 y9 y10 : Option V) (b : Addr) (bs : List Addr), σ' = [some (.ref x), some (.int (n : Int)), some (.ref c), some (.ref pe), some (.ref b), some (.ref L), y6, y7, y8, y9, y10] ∧ Ex H H' ∧ SqT K H' b0 kx ∧ DTs K H' kx (o.ks.map Kd.d) ∧ H' L = some (.lst (bs.map V.ref)) ∧ H' b = some (.lst (grV (fs i).1)) ∧ GrB ep.2.toNat (fs i).1 ∧ bs.length = (fs i).2.length ∧ bs.length = i + 1 ∧ ∀ (j : Nat) (a : Addr) (g : Grid), bs[j]? = some a → (fs i).2[j]? = some g → H' a = some (.lst (grV g))) ⟨_, _, _, _, _, D, [D], rfl, e3, Sk, dk, f3, by rw [hf0]; exact fD, by rw [hf0]; exact hg0b.1, by rw [hf0]; rfl, rfl, fun j a g h1 h2 => ?_⟩ ?_ ?_ ?_
      · rw [hf0] at h2
        cases j with
        | zero =>
          cases h1
          cases h2
          exact fD
        | succ j => simp at h1
      · rintro i σ' H' ⟨_, _, _, _, _, _, _, _, e, Sk, _⟩
        exact ⟨Sk, e.seqT Sv⟩
      · rintro i T y z σ' H' H'' hy hz ⟨y6, y7, y8, y9, y10, b2, bs, rfl, e, Sk, dk, fL, fb, hgb, hbl, hbi, hbs⟩ eT nT fT
        obtain ⟨k, hk, hkd⟩ := dk.getM hy
        obtain ⟨r, hr, hrd⟩ := dv.getM hz
        have hkr : (o.ks.zip ch)[i]? = some (k, r) := List.getElem?_zip_eq_some.mpr ⟨hk, hr⟩
        have hfs1 : fs (i + 1) = gridStep n ep.2.toNat (fs i) (k, r) := by
          rw [← hfs]
          show ((o.ks.zip ch).take (i + 1)).foldl _ _ = _
          rw [List.take_add_one, hkr, Option.toList_some, List.foldl_append]
          rfl
        have hrm := List.mem_of_getElem? hr
        have hkok := O.ok.k2 k (List.mem_of_getElem? hk)
        walk_at "rd"
        refine ⟨_, sqT fT, rfl, _, _, rfl, _, _, rfl, rfl, ?_⟩
        walk_at "rd"
        obtain ⟨ka, kxs, rfl, Ska, kat⟩ := Kd.at1 k (hkd.mono eT.any)
        obtain ⟨ra, rxs, rfl, Sra, dra⟩ := dtT (hrd.mono (e.trans eT).any)
        have hkc := hkok.c
        have hnc : (n : Int) * k.c = ((n * k.c.toNat : Nat) : Int) := by rw [Int.natCast_mul, Int.toNat_of_nonneg (by omega)]
        have hmn : n * k.c.toNat ≤ 12 * 3 := Nat.mul_le_mul hn (by omega)
        have hrl := dra.lenM
        have hr3 := hc.r r hrm
        have hr1 : 1 ≤ r.length := by
          rcases Nat.eq_zero_or_pos r.length with h0 | h0
          · exact absurd (List.eq_nil_of_length_eq_zero h0) hr3.1
          · exact h0
        refine ⟨ka, kxs, 1, _, rfl, rfl, Ska, kat, k.c, rfl, .inl ⟨by omega, by omega⟩, ?_⟩
        rw [hnc]
        refine lcT0 (a := ra) (xs := rxs) (fun R h => ⟨_, rfl, h⟩) Sra (by omega) (fun i y H' => ∃ el, r[i]? = some el ∧ DT K H' y (ptD el.2)) (fun i y H1 H2 ⟨k, z1, z2⟩ e => ⟨k, z1, z2.mono e⟩) ?_ ?_
        · intro j v H4 Q4 hv4 e4 q4
          obtain ⟨el, hel, held⟩ := dra.getM hv4
          obtain ⟨d, ds, rfl, Sd, sd⟩ := dtT (held.mono e4.any)
          cases sd with
          | cons w1 sd => cases sd with
            | cons w2 sd =>
              cases sd
              walk_at "rd"
              exact ⟨_, Sd, rfl, _, _, rfl, _, _, rfl, rfl, q4 _ _ .refl ⟨el, hel, w2⟩⟩
        · intro PL ps H4 hPL e4 f4 l4 r4
          have hdps : DTs K H4 ps ((r.map (·.2)).map ptD) := DTs.of (by rw [l4, hrl, List.length_map, List.length_map]) fun i y hy => by
            obtain ⟨el, h1, h2⟩ := r4 i y hy
            exact ⟨_, by rw [List.map_map, List.getElem?_map, h1]; rfl, h2⟩
          have E4 := eT.trans e4
          have hgs := givenF_b (ey := ep.2.toNat) (n := (fs i).1.length) (pts := r.map (·.2)) (by simpa using hr3.1) (n * k.c.toNat) (g := (fs i).1) (many := n * k.c.toNat) (gv := 0) ⟨hgb, rfl⟩
          refine ⟨b2, (fs i).1, n * k.c.toNat, PL, ps, r.map (·.2), _, ep, rfl, E4.get fb, hve.mono (e.trans E4).any, sqL f4, hdps, he2, hgb, by omega, ⟨by rw [List.length_map]; omega, by rw [List.length_map]; exact hr3.2⟩, fun p hp => ?_, fun l H5 e5 f5 => ?_⟩
          · obtain ⟨el, h1, rfl⟩ := List.mem_map.mp hp
            exact hc.p r hrm el h1
          · have E5 := E4.trans e5
            have fL5 := E5.get fL
            have hbs0 : bs ≠ [] := fun z => by
              rw [z] at hbi
              cases hbi
            have hlL : l ≠ L := fun z => by
              rw [z, fL5] at f5
              have f6 := HO.lst.inj (Option.some.inj f5)
              exact gr_ref hbs0 f6.symm
            have put : Ex H (upd H5 L (.lst (bs.map V.ref ++ [.ref l]))) := (e.trans E5).put fL5 (.inl hLH)
            have gL : Gr (· = L) H5 (upd H5 L (.lst (bs.map V.ref ++ [.ref l]))) := Gr.refl.put fL5 (.inr rfl)
            have h4 := hc.l
            have hi4 := (List.getElem?_eq_some_iff.mp hr).1
            refine ⟨.inl ⟨rfl, _, sqL fL5⟩, L, _, _, rfl, rfl, fL5, smallt (by rw [List.length_map]; omega), _, _, _, _, _, l, ⟨rfl, rfl, rfl, rfl, rfl, rfl⟩, put, ?_, ?_, bs ++ [l], by rw [upd_same, List.map_append]; rfl, ?_, ?_, ?_, ?_, ?_⟩
            · exact gL.seqT (E5.seqT Sk)
            · exact dk.mono (E5.any.trans gL.any)
            · rw [gL.at f5 hlL, hfs1]
              rfl
            · rw [hfs1]
              exact hgs.1
            · rw [hfs1]
              show _ = ((fs i).2 ++ [_]).length
              rw [List.length_append, List.length_append, hbl]
              rfl
            · rw [List.length_append, hbi]
              rfl
            · intro j a g h1 h2
              rw [hfs1] at h2
              have h2' : ((fs i).2 ++ [givenM (fs i).1 (n * k.c.toNat) (r.map (·.2)) ep.2.toNat])[j]? = some g := h2
              by_cases hj : j < bs.length
              · rw [List.getElem?_append_left hj] at h1
                rw [List.getElem?_append_left (by omega)] at h2'
                have h3 := E5.get (hbs j a g h1 h2')
                refine gL.at h3 fun z => ?_
                rw [z, fL5] at h3
                exact gr_ref hbs0 (HO.lst.inj (Option.some.inj h3)).symm
              · rw [List.getElem?_append_right (by omega)] at h1
                rw [List.getElem?_append_right (by omega), ← hbl] at h2'
                have h0 : j - bs.length = 0 := by
                  cases q : j - bs.length with
                  | zero => rfl
                  | succ r =>
                    rw [q] at h1
                    simp at h1
                rw [h0] at h1 h2'
                cases h1
                cases h2'
                exact gL.at f5 hlL
      · rintro σ' H' ⟨y6, y7, y8, y9, y10, b2, bs, rfl, e, Sk, dk, fL, fb, hgb, hbl, hbi, hbs⟩
        walk_at "rd"
        have hres : (fs o.ks.length).2 = gridsM o n ch ep := by
          rw [← hfs]
          unfold gridsM
          simp only []
          rw [List.take_of_length_le (by rw [List.length_zip]; omega)]
        refine q L H' e ⟨bs, fL, ?_, ?_⟩
        · rw [hbl]
          exact congrArg List.length hres
        · intro i b g h1 h2
          refine hbs i b g h1 ?_
          rw [hres]
          exact h2
end
end K11

namespace K11
open PySem PySem.Spec PyProof.Rows L2 Z ZE RZ
local macro_rules | `(tactic| walk_at "rd") => `(tactic| try simp only [cxOf, tSeq, tIfS, tRet, tRetN, tAsg, tDrop, tNext, tBreak, tCont, tNever, tPar, tPar3, tAug, gName, gTup, gCons, gNil, gSub, tVar, tC, tOp, tUn, tCB, tBM, tBM0, tCons, tNil, tTest, tB, tAnd, tOr, tNot, tAndV, tOrV, tNotV, tIf, tChain,
  tTup, tLst, tCall, tMeth, tSl, tPart, tNoPart, tM1, tFmt, tJs_nil, tJs_cons, tCKw, rI0, rI, rU, rEq, rNe, scal_ii, scal_ss, scal_bb, ipI, iStr, iTup, iList, iRng1, sFld, tFld, L2.start, List.getElem?_cons_zero, List.getElem?_cons_succ, List.set_cons_zero, List.set_cons_succ, Option.some.injEq, V.int.injEq, V.bl.injEq, V.str.injEq, V.ref.injEq,
  List.cons.injEq, exists_and_left, exists_eq_left', exists_eq_left, exists_eq_right, exists_eq_right', exists_eq', exists_eq, and_true, true_and, and_self, List.map_cons, List.map_nil, List.length_cons, List.length_nil, List.replicate_succ, List.replicate_zero, List.cons_append, List.nil_append, List.append_nil,
  Nat.add_sub_cancel, Nat.reduceAdd, Nat.reduceSub, if_true, if_false, ite_true, ite_false, Bool.not_true, Bool.not_false, Bool.true_eq_false, Bool.false_eq_true, reduceIte, reduceCtorEq, false_and, exists_false, or_false, false_or, decide_true, decide_false, wipe])

section
variable {P : Program} {w : World} {K : PySem.W.Frag} {mg : Str → Option Value} {base : Heap} {C : Addr}
abbrev s_row_across : Stmt := topS 71
theorem sc_row_across : FnScope ["columns", "at", "column"] ["columns", "at"] (defScope s_row_across) := ⟨rfl, rfl, rfl, by decide +kernel, rfl, by decide +kernel, by decide +kernel⟩
def spRowA (K : PySem.W.Frag) : Sp := fun vs H Q _ => ∃ (a : Addr) (xs : List V) (cs : List (List Int)) (i : Nat), vs = [.ref a, .int (i : Int)] ∧ SqL K H a xs ∧ DTs K H xs (cs.map wayD) ∧ cs.length ≤ 4 ∧ (∀ c ∈ cs, i < c.length) ∧ ∀ t H', Ex H H' → DT K H' t (wayD (cs.map fun c => c.getD i 0)) → Q t H'
theorem ok_row_across (B : Bl mg) (D0 : Df K mg "_row_across" s_row_across) : Cal P w K mg base 1 "_row_across" ["columns", "at"] (spRowA K) := by
  refine D0.cal sc_row_across (fun _ _ _ _ _ _ us hl => match us, hl with | [_, _], _ => rfl) (fun vs H Q E h => ?_) (fun f cdv A outer s H vs Q E hr h => ?_)
  · obtain ⟨a, xs, cs, i, rfl, _⟩ := h
    rfl
  · obtain ⟨a, xs, cs, i, rfl, S, ds, hl, hi, q⟩ := h
    refine ⟨_, (pss_one (ps_ret (pe_callTy (r := rTupOf K) call_tuple_of (by rfl) B.tuple_ (by decide +kernel) (pa_cons (pe_lc (own := [("column", 2)]) (g := gName 2) rfl sc_row_across.nd (pi_list (pv 0)) (blkOk_by (N := ["columns", "at", "column"]) (sc := defScope s_row_across) (by decide +kernel)) (fun _ _ _ _ _ => (pg_name (i := 2) sc_row_across.nd rfl (.inl rfl))) (fun _ _ _ _ _ => pts_nil) (fun _ _ _ _ _ => (pe_ix (r := rIxT K) ix_tup (pv 2) (pv 1) (fun _ _ => rfl)))) pa_nil)))), ?_⟩
    walk_at "rd"
    have hxl := ds.lenM
    refine lcLf (a := a) (xs := xs) (fun R h => ⟨_, rfl, h⟩) S (by omega) ((cs.map fun c => c.getD i 0).map V.int) (by rw [List.length_map, List.length_map, hxl]) ?_ ?_
    · intro j x z H1 Q1 hx hz e1 q1
      obtain ⟨c, hc, hcd⟩ := ds.getM hx
      obtain ⟨d, ys, rfl, Sd, sd⟩ := dtT (hcd.mono e1.any)
      have hys := dtsIntsInv sd
      subst hys
      have hci := hi c (List.mem_of_getElem? hc)
      rw [List.map_map, List.getElem?_map, hc] at hz
      cases hz
      walk_at "rd"
      refine ⟨d, _, (i : Int), _, rfl, rfl, Sd, atI_nat (j := i) (v := .int (c.getD i 0)) ?_, q1 _ .refl⟩
      rw [List.getElem?_map, List.getD_eq_getElem?_getD, List.getElem?_eq_getElem hci]
      rfl
    · intro D H1 hD e1 f1
      refine ⟨D, _, rfl, .inl ⟨sqL f1, fun t ht => q (.ref t) _ (e1.trans (.new ht)) ?_⟩⟩
      exact .tup (sqT upd_same) (dtsInts _)
end
end K11

namespace K11
open PySem PySem.Spec PyProof.Rows L2 Z ZE RZ
local macro_rules | `(tactic| walk_at "rd") => `(tactic| try simp only [cxOf, tSeq, tIfS, tRet, tRetN, tAsg, tDrop, tNext, tBreak, tCont, tNever, tPar, tPar3, tAug, gName, gTup, gCons, gNil, gSub, tVar, tC, tOp, tUn, tCB, tBM, tBM0, tCons, tNil, tTest, tB, tAnd, tOr, tNot, tAndV, tOrV, tNotV, tIf, tChain,
  tTup, tLst, tCall, tMeth, tSl, tPart, tNoPart, tM1, tFmt, tJs_nil, tJs_cons, tCKw, rI0, rI, rU, rEq, rNe, scal_ii, scal_ss, scal_bb, ipI, iStr, iTup, iList, iRng1, sFld, tFld, L2.start, List.getElem?_cons_zero, List.getElem?_cons_succ, List.set_cons_zero, List.set_cons_succ, Option.some.injEq, V.int.injEq, V.bl.injEq, V.str.injEq, V.ref.injEq,
  List.cons.injEq, exists_and_left, exists_eq_left', exists_eq_left, exists_eq_right, exists_eq_right', exists_eq', exists_eq, and_true, true_and, and_self, List.map_cons, List.map_nil, List.length_cons, List.length_nil, List.replicate_succ, List.replicate_zero, List.cons_append, List.nil_append, List.append_nil,
  Nat.add_sub_cancel, Nat.reduceAdd, Nat.reduceSub, if_true, if_false, ite_true, ite_false, Bool.not_true, Bool.not_false, Bool.true_eq_false, Bool.false_eq_true, reduceIte, reduceCtorEq, false_and, exists_false, or_false, false_or, decide_true, decide_false, wipe])

section
variable {P : Program} {w : World} {K : PySem.W.Frag} {mg : Str → Option Value} {base : Heap} {C : Addr}
theorem ways_nn : ∀ (rs : List Int) {n : Int}, 0 ≤ n → ∀ v ∈ waysM rs n, ∀ c ∈ v, 0 ≤ c ∧ c ≤ n
  | [], _, _, v, hv => by simp [waysM] at hv
  | [r], n, hn, v, hv => by
    unfold waysM at hv
    split at hv
    · simp at hv
      subst hv
      intro c hc
      simp at hc
      omega
    · simp at hv
  | r :: s :: rs, n, hn, v, hv => by
    unfold waysM at hv
    obtain ⟨l, h1, h2⟩ := List.mem_flatten.mp hv
    obtain ⟨i, hi, rfl⟩ := List.mem_map.mp h1
    obtain ⟨u, h3, rfl⟩ := List.mem_map.mp h2
    have hi := List.mem_range.mp hi
    have ih := ways_nn (s :: rs) (n := n - (max 0 (n - (s :: rs).sum) + (i : Int))) (by omega) u h3
    intro c hc
    rcases List.mem_cons.mp hc with rfl | hc
    · omega
    · have := ih c hc
      omega
theorem ixN_of {n j : Nat} (h : j < n) : ixN n (j : Int) = some j := by
  rw [ixN, if_pos (by omega), if_pos (by omega), Int.toNat_natCast]
theorem dts_set {H : Hp} {v : V} {d : D} (hv : DT K H v d) : ∀ {xs : List V} {ds : List D} (j : Nat), DTs K H xs ds → DTs K H (xs.set j v) (ds.set j d)
  | [], [], _, _ => .nil
  | _ :: _, _ :: _, 0, .cons _ h => .cons hv h
  | _ :: _, _ :: _, j + 1, .cons h1 h => .cons h1 (dts_set hv j h)
theorem pts_of_len (np : Nat) : ∀ (r : Row) (l : List Pt), (r.foldl (fun l e => l.set e.1 e.2) l).length = l.length
  | [], _ => rfl
  | e :: r, l => by rw [List.foldl_cons, pts_of_len np r, List.length_set]
theorem rooms_of_len (many : Int) : ∀ (r : Row) (l : List Int), (r.foldl (fun l e => l.set e.1 many) l).length = l.length
  | [], _ => rfl
  | e :: r, l => by rw [List.foldl_cons, rooms_of_len many r, List.length_set]
theorem pts_of_in : ∀ (r : Row) (l : List Pt), (∀ el ∈ r, (0 ≤ el.2.1 ∧ el.2.1 ≤ 6) ∧ (0 ≤ el.2.2 ∧ el.2.2 ≤ 6)) → (∀ p ∈ l, (0 ≤ p.1 ∧ p.1 ≤ 6) ∧ (0 ≤ p.2 ∧ p.2 ≤ 6)) → ∀ p ∈ r.foldl (fun l e => l.set e.1 e.2) l, (0 ≤ p.1 ∧ p.1 ≤ 6) ∧ (0 ≤ p.2 ∧ p.2 ≤ 6)
  | [], _, _, h => h
  | e :: r, l, hr, h => pts_of_in r _ (fun x hx => hr x (List.mem_cons_of_mem _ hx)) fun p hp => by
    rcases List.mem_or_eq_of_mem_set hp with h1 | rfl
    · exact h p h1
    · exact hr e (List.mem_cons_self ..)
theorem rooms_of_in {many : Int} (hm : 0 ≤ many) : ∀ (r : Row) (l : List Int), (∀ p ∈ l, 0 ≤ p ∧ p ≤ many) → ∀ p ∈ r.foldl (fun l e => l.set e.1 many) l, 0 ≤ p ∧ p ≤ many
  | [], _, h => h
  | e :: r, l, h => rooms_of_in hm r _ fun p hp => by
    rcases List.mem_or_eq_of_mem_set hp with h1 | rfl
    · exact h p h1
    · exact ⟨hm, Int.le_refl _⟩
/-- the sums of what a column gives, one coordinate -/
theorem dotC {z0 z1 z2 z3 z4 z6 z7 z8 z10 z11 z12 z13 : Option V} {PL col : Addr} {H : Hp} {Q : VK} {ps : List V} {pts : List Pt} {c : List Int} {j : Nat} {sel : Pt → Int} (hj : ∀ p : Pt, atI [V.int p.1, V.int p.2] (j : Int) = some (.int (sel p))) (hp : H PL = some (.lst ps)) (hps : DTs K H ps (pts.map ptD)) (hc : SqT K H col (c.map V.int)) (hl : c.length = pts.length) (h3 : pts.length ≤ 3) (hb : ∀ x ∈ c, 0 ≤ x ∧ x ≤ 40)
    (k : ∀ D H', H D = none → Ex H H' → H' D = some (.lst (((c.zip pts).map fun q => q.1 * sel q.2).map V.int)) → Q (.ref D) H') :
    tLc (ZM.iZipM K false true (tCons (tVar 9) (tCons (tVar 5) tNil))) (gTup K 2 (gCons (gName 13) (gCons (gName 8) gNil))) tYes (tOp (rI CMul fun i j => V.int (i * j)) (tVar 13) (tOp (rIxT K) (tVar 8) (tC (V.int (j : Int))))) [13, 8] [z0, z1, z2, z3, z4, some (.ref PL), z6, z7, z8, some (.ref col), z10, z11, z12, z13] H Q := by
  have hpl := hps.lenM
  refine lcTL (a := col) (b := PL) (xs := c.map V.int) (ys := ps) (n := c.length) (fun R h => ⟨_, rfl, _, rfl, h⟩) hc (sqL hp) (List.length_map ..) (by omega) (by omega) (((c.zip pts).map fun q => q.1 * sel q.2).map V.int) (by rw [List.length_map, List.length_map, List.length_zip]; omega) ?_ k
  intro i T x y z H1 Q1 hx hy hz e1 fT q1
  obtain ⟨p, hpp, hpd⟩ := hps.getM hy
  rw [List.getElem?_map, Option.map_eq_some_iff] at hx
  obtain ⟨ci, hci, rfl⟩ := hx
  have hzz : (c.zip pts)[i]? = some (ci, p) := List.getElem?_zip_eq_some.mpr ⟨hci, hpp⟩
  rw [List.map_map, List.getElem?_map, hzz] at hz
  cases hz
  obtain ⟨pa, rfl, SP⟩ := DT.pair (hpd.mono e1.any)
  have hcb := hb ci (List.mem_of_getElem? hci)
  walk_at "rd"
  refine ⟨_, sqT fT, rfl, _, _, rfl, _, _, rfl, rfl, ?_⟩
  walk_at "rd"
  exact ⟨pa, _, (j : Int), _, rfl, rfl, SP, hj p, _, rfl, .inl ⟨by omega, by omega⟩, q1 _ .refl⟩
theorem find_at {α : Type} {p : α → Bool} : ∀ {l : List α} {i : Nat} {c : α}, (l.take i).find? p = none → l[i]? = some c → (p c = true → l.find? p = some c) ∧ (p c = false → (l.take (i + 1)).find? p = none)
  | [], i, c, _, h => by simp at h
  | x :: l, 0, c, _, h => by
    cases h
    refine ⟨fun z => by rw [List.find?_cons, z], fun z => ?_⟩
    show (x :: l.take 0).find? p = none
    rw [List.find?_cons, z]
    rfl
  | x :: l, i + 1, c, h1, h => by
    rw [List.take_succ_cons, List.find?_cons] at h1
    cases hx : p x with
    | true =>
      rw [hx] at h1
      cases h1
    | false =>
      rw [hx] at h1
      have ih := find_at (l := l) (i := i) (c := c) h1 h
      refine ⟨fun z => ?_, fun z => ?_⟩
      · rw [List.find?_cons, hx]
        exact ih.1 z
      · rw [List.take_succ_cons, List.find?_cons, hx]
        exact ih.2 z
theorem dot_nn {c : List Int} {pts : List Pt} (hc : ∀ x ∈ c, 0 ≤ x) (hp : ∀ p ∈ pts, (0 ≤ p.1 ∧ p.1 ≤ 6) ∧ (0 ≤ p.2 ∧ p.2 ≤ 6)) : 0 ≤ ((c.zip pts).map fun q => q.1 * q.2.1).sum ∧ 0 ≤ ((c.zip pts).map fun q => q.1 * q.2.2).sum := by
  refine ⟨sum_nn fun x hx => ?_, sum_nn fun x hx => ?_⟩
  all_goals
    obtain ⟨⟨a, b⟩, hq, rfl⟩ := List.mem_map.mp hx
    have h := List.of_mem_zip hq
  · exact Int.mul_nonneg (hc a h.1) (hp b h.2).1.1
  · exact Int.mul_nonneg (hc a h.1) (hp b h.2).2.1
abbrev s_step_back : Stmt := topS 77
theorem sc_step_back : FnScope ["order", "many", "row", "grid", "end", "points", "rooms", "at", "point", "column", "x", "y", "person", "count"] ["order", "many", "row", "grid", "end"] (defScope s_step_back) := ⟨rfl, rfl, rfl, by decide +kernel, rfl, by decide +kernel, by decide +kernel⟩
def backD : Option (List Int × Pt) → D
  | none => .non
  | some s => .tup [wayD s.1, ptD s.2]
def spBack (K : PySem.W.Frag) (C : Addr) : Sp := fun vs H Q _ => ∃ (x : Addr) (o : Od) (many : Nat) (v : V) (r : Row) (ga : Addr) (g : Grid) (ve : V) (e : Pt), vs = [.ref x, .int (many : Int), v, .ref ga, ve] ∧ OrdAt K C H x o ∧ many ≤ 40 ∧ DT K H v (rowD r) ∧ (r.length ≤ 3 ∧ ∀ el ∈ r, el.1 < o.np ∧ (0 ≤ el.2.1 ∧ el.2.1 ≤ 6) ∧ (0 ≤ el.2.2 ∧ el.2.2 ≤ 6)) ∧ SqL K H ga (grV g) ∧ DT K H ve (ptD e) ∧ e.1 < g.length ∧ ∀ t H', Ex H H' → DT K H' t (backD (stepBackM o.np (many : Int) r g e)) → Q t H'
theorem ok_step_back (B : Bl mg) (p_people : Prp P w K mg base 1 C "people" "_people") (c_ways : Cal P w K mg base 4 "ways" ["many", "rooms"] (spWays K 3)) (c_stands : Cal P w K mg base 1 "_stands" ["grid", "point"] (spStands K)) (D0 : Df K mg "_step_back" s_step_back) : Cal P w K mg base 5 "_step_back" ["order", "many", "row", "grid", "end"] (spBack K C) := by
  refine D0.cal sc_step_back (fun _ _ _ _ _ _ us hl => match us, hl with | [_, _, _, _, _], _ => rfl) (fun vs H Q E h => ?_) (fun f cdv A outer s H vs Q E hr h => ?_)
  · obtain ⟨x, o, many, v, r, ga, g, ve, e, rfl, _⟩ := h
    rfl
  · obtain ⟨x, o, many, v, r, ga, g, ve, ep, rfl, O, hm, hv, hr3, Sg, hve, hl, q⟩ := h
    refine ⟨_, (pss_cons (ps_setLc (i := 5) (own := [("person", 12)]) (g := gName 12) rfl sc_step_back.nd rfl rfl (sw_true rfl rfl rfl (by decide +kernel)) (pi_tup (pe_prp p_people hr (by decide) (pv 0))) (blkOk_by (N := ["order", "many", "row", "grid", "end", "points", "rooms", "at", "point", "column", "x", "y", "person", "count"]) (sc := defScope s_step_back) (by decide +kernel)) (fun _ _ _ _ _ => (pg_name (i := 12) sc_step_back.nd rfl (.inl rfl))) (fun _ _ _ _ _ => pts_nil) (fun _ _ _ _ _ => (pe_tup (pa_cons pe_int (pa_cons pe_int pa_nil)))))
      (pss_cons (ps_setLc (i := 6) (own := [("person", 12)]) (g := gName 12) rfl sc_step_back.nd rfl rfl (sw_true rfl rfl rfl (by decide +kernel)) (pi_tup (pe_prp p_people hr (by decide) (pv 0))) (blkOk_by (N := ["order", "many", "row", "grid", "end", "points", "rooms", "at", "point", "column", "x", "y", "person", "count"]) (sc := defScope s_step_back) (by decide +kernel)) (fun _ _ _ _ _ => (pg_name (i := 12) sc_step_back.nd rfl (.inl rfl))) (fun _ _ _ _ _ => pts_nil) (fun _ _ _ _ _ => pe_int))
      (pss_cons (ps_for PassesOwn.never rfl (pi_tup (pv 2)) (pg_tup rfl (pgs_cons (pg_name (i := 7) sc_step_back.nd rfl (.inl rfl)) (pgs_cons (pg_name (i := 8) sc_step_back.nd rfl (.inl rfl)) pgs_nil))) (pss_cons (ps_asg (pv 8) (pg_sub (pv 5) (pv 7) set_list))
      (pss_one (ps_asg (pv 1) (pg_sub (pv 6) (pv 7) set_list)))))
      (pss_cons (ps_for PassesOwn.never rfl (pi_list (pe_cal c_ways hr (Nat.le_refl _) rfl (pa_cons (pv 1) (pa_cons (pv 6) pa_nil)))) (pg_name (i := 9) sc_step_back.nd rfl (.inl rfl)) (pss_cons (ps_set (i := 10) sc_step_back.nd rfl (.inl rfl) (pe_op op_sub (pe_ix (r := rIxT K) ix_tup (pv 4) pe_int (fun _ _ => rfl)) (pe_callB (r := rSum K) (cr_sum rfl) (by rfl) B.sum_ (by decide +kernel) (pa_cons (pe_lc (own := [("count", 13), ("point", 8)]) (g := gTup K 2 (gCons (gName 13) (gCons (gName 8) gNil))) rfl sc_step_back.nd (ZM.pi_zipM false true (by rfl) B.zip_ (pa_cons (pv 9) (pa_cons (pv 5) pa_nil))) (blkOk_by (N := ["order", "many", "row", "grid", "end", "points", "rooms", "at", "point", "column", "x", "y", "person", "count"]) (sc := defScope s_step_back) (by decide +kernel)) (fun _ _ _ _ _ => (by exact (pg_tup rfl (pgs_cons (pg_name (i := 13) sc_step_back.nd rfl (.inl rfl)) (pgs_cons (pg_name (i := 8) sc_step_back.nd rfl (.inl rfl)) pgs_nil))))) (fun _ _ _ _ _ => pts_nil) (fun _ _ _ _ _ => (pe_op op_mul (pv 13) (pe_ix (r := rIxT K) ix_tup (pv 8) pe_int (fun _ _ => rfl))))) pa_nil))))
      (pss_cons (ps_set (i := 11) sc_step_back.nd rfl (.inl rfl) (pe_op op_sub (pe_ix (r := rIxT K) ix_tup (pv 4) pe_int (fun _ _ => rfl)) (pe_callB (r := rSum K) (cr_sum rfl) (by rfl) B.sum_ (by decide +kernel) (pa_cons (pe_lc (own := [("count", 13), ("point", 8)]) (g := gTup K 2 (gCons (gName 13) (gCons (gName 8) gNil))) rfl sc_step_back.nd (ZM.pi_zipM false true (by rfl) B.zip_ (pa_cons (pv 9) (pa_cons (pv 5) pa_nil))) (blkOk_by (N := ["order", "many", "row", "grid", "end", "points", "rooms", "at", "point", "column", "x", "y", "person", "count"]) (sc := defScope s_step_back) (by decide +kernel)) (fun _ _ _ _ _ => (by exact (pg_tup rfl (pgs_cons (pg_name (i := 13) sc_step_back.nd rfl (.inl rfl)) (pgs_cons (pg_name (i := 8) sc_step_back.nd rfl (.inl rfl)) pgs_nil))))) (fun _ _ _ _ _ => pts_nil) (fun _ _ _ _ _ => (pe_op op_mul (pv 13) (pe_ix (r := rIxT K) ix_tup (pv 8) pe_int (fun _ _ => rfl))))) pa_nil))))
      (pss_one (ps_if (pt_val (pe_cal c_stands hr (by decide) rfl (pa_cons (pv 3) (pa_cons (pe_tup (pa_cons (pv 10) (pa_cons (pv 11) pa_nil))) pa_nil)))) (pss_one (ps_ret (pe_tup (pa_cons (pv 9) (pa_cons (pe_tup (pa_cons (pv 10) (pa_cons (pv 11) pa_nil))) pa_nil))))) pss_nil)))))
      (pss_one (ps_ret pe_non)))))), ?_⟩
    walk_at "rd"
    have hnp := O.ok.p1
    obtain ⟨va, vxs, rfl, Sv, dv⟩ := dtT hv
    obtain ⟨pe, rfl, Se⟩ := DT.pair hve
    have hvl := dv.lenM
    -- the two lists
    refine lcTd (fun c H1 => H1 = H ∧ ∃ px, SqT K H1 c px ∧ px.length = o.np) (fun R h => ppl rfl O fun c px Sp dp => h c _ ⟨rfl, px, Sp, dp.lenM⟩) ?_
    rintro c H1 ⟨rfl, px, Sp, hpx⟩
    refine lcT0 (a := c) (xs := px) (fun R h => h) Sp (by have := hnp.2; unfold Z.Od.np at hpx; omega) (fun i y H' => DT K H' y (ptD (0, 0))) (fun i y H1 H2 z e => z.mono e) ?_ ?_
    · intro i x H2 Q2 hx e2 q2
      walk_at "rd"
      refine ⟨by decide, fun p hp => q2 _ _ (.new hp) (.tup (sqT upd_same) (.cons (.int _) (.cons (.int _) .nil)))⟩
    intro PL ps H2 hPL e2 f2 l2 r2
    have dps : DTs K H2 ps ((List.replicate o.np ((0, 0) : Pt)).map ptD) := DTs.of (by rw [l2, hpx, List.length_map, List.length_replicate]) fun i y hy => by
      have hi := (List.getElem?_eq_some_iff.mp hy).1
      exact ⟨ptD (0, 0), by rw [List.getElem?_map, List.getElem?_replicate, if_pos (by omega)]; rfl, r2 i y hy⟩
    refine lcTd (fun c H3 => H3 = H2 ∧ ∃ px, SqT K H3 c px ∧ px.length = o.np) (fun R h => ppl rfl (O.up e2 id) fun c px Sp dp => h c _ ⟨rfl, px, Sp, dp.lenM⟩) ?_
    rintro c2 H3 ⟨rfl, px2, Sp2, hpx2⟩
    refine lcTf (a := c2) (xs := px2) (fun R h => h) Sp2 (by have := hnp.2; unfold Z.Od.np at hpx2; omega) ((List.replicate o.np (0 : Int)).map V.int) (by rw [List.length_map, List.length_replicate, hpx2]) ?_ ?_
    · intro i x z H4 Q4 hx hz e4 q4
      walk_at "rd"
      rw [List.map_replicate] at hz
      have := List.eq_of_mem_replicate (List.mem_of_getElem? hz)
      subst this
      exact q4 _ .refl
    intro RL H4 hRL e4 f4
    have hPR : PL ≠ RL := fun z => by
      rw [← z, f2] at hRL
      cases hRL
    have E4 := e2.trans e4
    refine forTp (a := va) (xs := vxs) (fun R h => ⟨_, rfl, h⟩) (E4.seqT Sv) (fun i σ' H' => ∃ (y7 y8 y9 y10 y11 y12 y13 : Option V) (ps : List V), σ' = [some (.ref x), some (.int (many : Int)), some (.ref va), some (.ref ga), some (.ref pe), some (.ref PL), some (.ref RL), y7, y8, y9, y10, y11, y12, y13] ∧ Ex H1 H' ∧ H' PL = some (.lst ps) ∧ DTs K H' ps (((r.take i).foldl (fun l e => l.set e.1 e.2) (List.replicate o.np ((0, 0) : Pt))).map ptD) ∧ H' RL = some (.lst (((r.take i).foldl (fun l e => l.set e.1 (many : Int)) (List.replicate o.np 0)).map V.int))) ⟨_, _, _, _, _, _, _, ps, rfl, E4, e4.get f2, dps.mono e4.any, f4⟩ (fun i σ' H' ⟨_, _, _, _, _, _, _, _, _, e, _⟩ => e.seqT Sv) ?_ ?_
    · rintro i y σ' H' hy ⟨y7, y8, y9, y10, y11, y12, y13, ps, rfl, e, fP, dP, fR⟩
      walk_at "rd"
      obtain ⟨el, hel, held⟩ := dv.getM hy
      have helr := hr3.2 el (List.mem_of_getElem? hel)
      obtain ⟨d, ds, rfl, Sd, sd⟩ := dtT (held.mono e.any)
      cases sd with
      | cons w1 sd => cases sd with
        | @cons v2 _ _ _ w2 sd =>
          cases sd
          cases w1
          have hpsl := dP.lenM
          rw [pts_of_len o.np, List.length_replicate] at hpsl
          have htP : (r.take (i + 1)).foldl (fun l e => l.set e.1 e.2) (List.replicate o.np ((0, 0) : Pt)) = ((r.take i).foldl (fun l e => l.set e.1 e.2) (List.replicate o.np ((0, 0) : Pt))).set el.1 el.2 := by
            rw [List.take_add_one, hel, Option.toList_some, List.foldl_append]
            rfl
          have htR : (r.take (i + 1)).foldl (fun l e => l.set e.1 (many : Int)) (List.replicate o.np 0) = ((r.take i).foldl (fun l e => l.set e.1 (many : Int)) (List.replicate o.np 0)).set el.1 (many : Int) := by
            rw [List.take_add_one, hel, Option.toList_some, List.foldl_append]
            rfl
          rw [htP, htR]
          have hRl := rooms_of_len (many : Int) (r.take i) (List.replicate o.np 0)
          rw [List.length_replicate] at hRl
          generalize (r.take i).foldl (fun l e => l.set e.1 (many : Int)) (List.replicate o.np 0) = RI at fR hRl ⊢
          generalize (r.take i).foldl (fun l e => l.set e.1 e.2) (List.replicate o.np ((0, 0) : Pt)) = PI at dP ⊢
          refine ⟨d, rfl, _, Sd, rfl, _, _, rfl, _, _, rfl, rfl, ?_⟩
          refine ⟨PL, ps, _, _, rfl, rfl, fP, ixN_of (by omega), ?_⟩
          have eP : Ex H1 (upd H' PL (.lst (ps.set el.1 v2))) := e.put fP (.inl hPL)
          have gP : Gr (· = PL) H' (upd H' PL (.lst (ps.set el.1 v2))) := Gr.refl.put fP (.inr rfl)
          have fP2 := upd_same (H := H') (a := PL) (o := .lst (ps.set el.1 v2))
          have fR2 := gP.at fR (fun z => hPR z.symm)
          have dP2 := dts_set (w2.mono gP.any) el.1 (dP.mono gP.any)
          generalize upd H' PL (.lst (ps.set el.1 v2)) = H5 at eP gP fP2 fR2 dP2 ⊢
          refine ⟨RL, _, _, _, rfl, rfl, fR2, ixN_of (by rw [List.length_map]; omega), ?_⟩
          have gR : Gr (· = RL) H5 (upd H5 RL (.lst ((RI.map V.int).set el.1 (.int (many : Int))))) := Gr.refl.put fR2 (.inr rfl)
          refine ⟨_, _, _, _, _, _, _, ⟨rfl, rfl, rfl, rfl, rfl, rfl, rfl⟩, eP.put fR2 (.inl (e2.free hRL)), _, gR.at fP2 hPR, by rw [List.map_set]; exact dP2.mono gR.any, ?_⟩
          rw [upd_same, List.map_set]
    · rintro σ' H' ⟨y7, y8, y9, y10, y11, y12, y13, ps, rfl, e, fP, dP, fR⟩
      rw [hvl, List.take_length] at dP fR
      have dP : DTs K H' ps ((ptsOf o.np r).map ptD) := dP
      have fR : H' RL = some (.lst ((roomsOf o.np (many : Int) r).map V.int)) := fR
      have hPl : (ptsOf o.np r).length = o.np := by rw [ptsOf, pts_of_len o.np, List.length_replicate]
      have hRl : (roomsOf o.np (many : Int) r).length = o.np := by rw [roomsOf, rooms_of_len, List.length_replicate]
      have hRi : ∀ p ∈ roomsOf o.np (many : Int) r, 0 ≤ p ∧ p ≤ (many : Int) := rooms_of_in (by omega) r _ fun p hp => by
        rw [List.eq_of_mem_replicate hp]
        omega
      have hsb : stepBackM o.np (many : Int) r g ep = ((waysM (roomsOf o.np (many : Int) r) (many : Int)).find? fun c => standsM g (backPt ep (ptsOf o.np r) c)).map fun c => (c, backPt ep (ptsOf o.np r) c) := rfl
      rw [hsb] at q
      have hnp3 : o.np ≤ 3 ∧ 2 ≤ o.np := ⟨hnp.2, hnp.1⟩
      have hwe := fun v hv => (ways_el (roomsOf o.np (many : Int) r) (many : Int) v hv).trans hRl
      have hwn := ways_nn (roomsOf o.np (many : Int) r) (n := (many : Int)) (by omega)
      have hPin : ∀ p ∈ ptsOf o.np r, (0 ≤ p.1 ∧ p.1 ≤ 6) ∧ (0 ≤ p.2 ∧ p.2 ≤ 6) := pts_of_in r _ (fun el hel => (hr3.2 el hel).2) fun p hp => by
        rw [List.eq_of_mem_replicate hp]
        decide
      generalize hPM : ptsOf o.np r = PM at dP hPl q hPin
      generalize hRM : roomsOf o.np (many : Int) r = RM at fR hRl hRi q hwe hwn
      generalize hWS : waysM RM (many : Int) = WS at q hwe hwn
      walk_at "rd"
      refine forLm (fun p xs H3 => Ex H1 H3 ∧ H3 p = some (.lst xs) ∧ DTs K H3 xs (WS.map wayD) ∧ H3 PL = some (.lst ps) ∧ DTs K H3 ps (PM.map ptD)) (fun R hR => ?_) (fun p xs H3 c => sqL c.2.1) (fun p xs i σ' H3 => ∃ (y9 y10 y11 y12 y13 : Option V), σ' = [some (.ref x), some (.int (many : Int)), some (.ref va), some (.ref ga), some (.ref pe), some (.ref PL), some (.ref RL), y7, y8, y9, y10, y11, y12, y13] ∧ (Ex H1 H3 ∧ H3 p = some (.lst xs) ∧ DTs K H3 xs (WS.map wayD) ∧ H3 PL = some (.lst ps) ∧ DTs K H3 ps (PM.map ptD)) ∧ (WS.take i).find? (fun c => standsM g (backPt ep PM c)) = none) (fun p xs H3 c => ⟨_, _, _, _, _, rfl, c, rfl⟩) (fun p xs i σ' H3 ⟨_, _, _, _, _, _, c, _⟩ => sqL c.2.1) ?_ ?_
      · exact ⟨_, rfl, _, rfl, (many : Int), RL, RM, rfl, sqL fR, ⟨by omega, by omega⟩, ⟨by omega, by omega⟩, fun p hp => by have := hRi p hp; omega, fun l ys H3 e3 hl f3 d3 => hR l ys H3 ⟨e.trans e3, f3, hWS ▸ d3, e3.get fP, dP.mono e3.any⟩⟩
      · rintro p xs i y σ' H3 hy ⟨y9, y10, y11, y12, y13, rfl, ⟨e3, fp, dW, fP3, dP3⟩, hfd⟩
        obtain ⟨c3, hc3, hcd⟩ := dW.getM hy
        have hcm := List.mem_of_getElem? hc3
        obtain ⟨col, cs, rfl, Sc, sc⟩ := dtT hcd
        have hcs := dtsIntsInv sc
        subst hcs
        have hcl := hwe c3 hcm
        have hcb := hwn c3 hcm
        walk_at "rd"
        have hcb2 : ∀ x ∈ c3, 0 ≤ x ∧ x ≤ 40 := fun x hx => by
          have := hcb x hx
          omega
        have hdn := dot_nn (c := c3) (fun x hx => (hcb x hx).1) hPin
        refine ⟨pe, _, 0, _, rfl, rfl, e3.seqT Se, atI_nat (j := 0) rfl, ?_⟩
        refine dotC (j := 0) (sel := fun p => p.1) (fun p => atI_nat (j := 0) rfl) fP3 dP3 Sc (by omega) (by omega) hcb2 fun D1 H4 hD1 e4 f4 => ?_
        refine ⟨D1, _, rfl, sqL f4, _, rfl, _, rfl, pe, _, 1, _, rfl, rfl, (e3.trans e4).seqT Se, atI_nat (j := 1) rfl, ?_⟩
        refine dotC (j := 1) (sel := fun p => p.2) (fun p => atI_nat (j := 1) rfl) (e4.get fP3) (dP3.mono e4.any) (e4.seqT Sc) (by omega) (by omega) hcb2 fun D2 H5 hD2 e5 f5 => ?_
        refine ⟨D2, _, rfl, sqL f5, _, rfl, _, rfl, by decide, fun p1 hp1 => ?_⟩
        have hbk : backPt ep PM c3 = (ep.1 - ((c3.zip PM).map fun q => q.1 * q.2.1).sum, ep.2 - ((c3.zip PM).map fun q => q.1 * q.2.2).sum) := rfl
        have hfa := find_at (p := fun c => standsM g (backPt ep PM c)) hfd hc3
        have E45 := e4.trans e5
        generalize ((c3.zip PM).map fun q => q.1 * q.2.1).sum = s1 at hdn hbk ⊢
        generalize ((c3.zip PM).map fun q => q.1 * q.2.2).sum = s2 at hdn hbk ⊢
        have E6 : Ex H3 (upd H5 p1 (.tup [.int (ep.1 - s1), .int (ep.2 - s2)])) := E45.trans (.new hp1)
        have f6 := upd_same (H := H5) (a := p1) (o := .tup [.int (ep.1 - s1), .int (ep.2 - s2)])
        generalize upd H5 p1 (.tup [.int (ep.1 - s1), .int (ep.2 - s2)]) = H6 at E6 f6 ⊢
        refine ⟨ga, g, .ref p1, (ep.1 - s1, ep.2 - s2), rfl, (e3.trans E6).seqL Sg id, .tup (sqT f6) (.cons (.int _) (.cons (.int _) .nil)), by show ep.1 - s1 < g.length; omega, _, rfl, ?_⟩
        rw [← hbk]
        cases hst : standsM g (backPt ep PM c3) with
        | true =>
          refine iteT ⟨by decide, fun p7 hp7 => ⟨by decide, fun p8 hp8 => ?_⟩⟩
          rw [hfa.1 hst] at q
          have e8 := E6.trans ((Gr.new (m := nob) (o := .tup [.int (ep.1 - s1), .int (ep.2 - s2)]) hp7).trans (Gr.new (m := nob) (o := .tup [.ref col, .ref p7]) hp8))
          refine q _ _ (e3.trans e8) ?_
          show DT K _ _ (.tup [wayD c3, ptD (backPt ep PM c3)])
          rw [hbk]
          exact .tup (sqT upd_same) (.cons (hcd.mono e8.any) (.cons (.tup (sqT ((Gr.new (m := nob) hp8).get upd_same)) (.cons (.int _) (.cons (.int _) .nil))) .nil))
        | false =>
          refine iteF ⟨_, _, _, _, _, ⟨rfl, rfl, rfl, rfl, rfl⟩, ⟨e3.trans E6, E6.get fp, dW.mono E6.any, E6.get fP3, dP3.mono E6.any⟩, hfa.2 hst⟩
      · rintro p xs σ' H3 ⟨y9, y10, y11, y12, y13, rfl, ⟨e3, fp, dW, fP3, dP3⟩, hfd⟩
        rw [dW.lenM, List.take_length] at hfd
        rw [hfd] at q
        walk_at "rd"
        exact q _ _ e3 .non
end
end K11

/-! the grids tell what can be reached, so a step back is always found. -/
namespace K11
open PySem PySem.Spec PyProof.Rows L2 Z ZE
/-- a row of takers: the people are different and there -/
structure RowOk (np : Nat) (r : Row) : Prop where
  n : (r.map (·.1)).Nodup
  b : ∀ el ∈ r, el.1 < np
  p : ∀ el ∈ r, (0 ≤ el.2.1 ∧ el.2.1 ≤ 6) ∧ (0 ≤ el.2.2 ∧ el.2.2 ≤ 6)
theorem stands_iff {g : Grid} {p : Pt} : standsM g p = true ↔ 0 ≤ p.1 ∧ 0 ≤ p.2 ∧ (g.getD p.1.toNat 0).testBit p.2.toNat = true := by
  unfold standsM
  simp [and_assoc]
theorem stands_moved {g : Grid} {a b ey : Nat} {p : Pt} (h : standsM (movedM g a b ey) p = true) : standsM g (p.1 - a, p.2 - b) = true := by
  obtain ⟨h1, h2, h3⟩ := stands_iff.mp h
  have hget : (movedM g a b ey).getD p.1.toNat 0 = if p.1.toNat < min a g.length then 0 else (((g.take (g.length - a)).map fun r => (r * 2 ^ b) % 2 ^ (ey + 1)).getD (p.1.toNat - min a g.length) 0) := by
    unfold movedM
    rw [List.getD_eq_getElem?_getD]
    split
    · rename_i hlt
      rw [List.getElem?_append_left (by rw [List.length_replicate]; exact hlt), List.getElem?_replicate, if_pos hlt]
      rfl
    · rename_i hge
      rw [List.getElem?_append_right (by rw [List.length_replicate]; omega), List.length_replicate, List.getD_eq_getElem?_getD]
  rw [hget] at h3
  split at h3
  · rw [Nat.zero_testBit] at h3
    cases h3
  · rename_i hge
    rw [List.getD_eq_getElem?_getD, List.getElem?_map] at h3
    cases hr : (g.take (g.length - a))[p.1.toNat - min a g.length]? with
    | none =>
      rw [hr] at h3
      simp at h3
    | some r =>
      rw [hr] at h3
      have h3' : (r * 2 ^ b % 2 ^ (ey + 1)).testBit p.2.toNat = true := h3
      rw [Nat.testBit_mod_two_pow, Bool.and_eq_true] at h3'
      obtain ⟨_, h4⟩ := h3'
      rw [Nat.testBit_mul_two_pow, Bool.and_eq_true] at h4
      have h5 : b ≤ p.2.toNat := by simpa using h4.1
      have hlt := (List.getElem?_eq_some_iff.mp hr).1
      rw [List.length_take] at hlt
      have hal : a ≤ g.length := by omega
      rw [Nat.min_eq_left hal] at hr hge
      rw [List.getElem?_take_of_lt (by rw [Nat.min_eq_left hal] at hlt; omega)] at hr
      refine stands_iff.mpr ⟨by show 0 ≤ p.1 - (a : Int); omega, by show 0 ≤ p.2 - (b : Int); omega, ?_⟩
      show (g.getD (p.1 - (a : Int)).toNat 0).testBit (p.2 - (b : Int)).toNat = true
      rw [show (p.1 - (a : Int)).toNat = p.1.toNat - a by omega, show (p.2 - (b : Int)).toNat = p.2.toNat - b by omega, List.getD_eq_getElem?_getD, hr]
      exact h4.2
theorem zor_get {g h : Grid} (n : Nat) : ((List.zipWith (fun a b => a ||| b) g h).getD n 0).testBit m = true → (g.getD n 0).testBit m = true ∨ (h.getD n 0).testBit m = true := by
  intro z
  rw [List.getD_eq_getElem?_getD, List.getElem?_zipWith] at z
  cases hg : g[n]? with
  | none =>
    rw [hg] at z
    simp at z
  | some a =>
    cases hh : h[n]? with
    | none =>
      rw [hg, hh] at z
      simp at z
    | some b =>
      rw [hg, hh] at z
      have z' : (a ||| b).testBit m = true := z
      rw [Nat.testBit_or, Bool.or_eq_true] at z'
      rw [List.getD_eq_getElem?_getD, List.getD_eq_getElem?_getD, hg, hh]
      exact z'
theorem stands_joinF {p : Pt} : ∀ {gs : List Grid} {g : Grid}, standsM (gs.foldl (fun w h => List.zipWith (fun a b => a ||| b) w h) g) p = true → standsM g p = true ∨ ∃ h ∈ gs, standsM h p = true
  | [], _, h => .inl h
  | x :: gs, g, h => by
    rcases stands_joinF (gs := gs) h with h1 | ⟨y, hy, h1⟩
    · obtain ⟨a, b, c⟩ := stands_iff.mp h1
      rcases zor_get _ c with c | c
      · exact .inl (stands_iff.mpr ⟨a, b, c⟩)
      · exact .inr ⟨x, List.mem_cons_self .., stands_iff.mpr ⟨a, b, c⟩⟩
    · exact .inr ⟨y, List.mem_cons_of_mem _ hy, h1⟩
theorem stands_joined {gs : List Grid} {p : Pt} (h : standsM (joinedM gs) p = true) : ∃ g ∈ gs, standsM g p = true := by
  cases gs with
  | nil =>
    have := (stands_iff.mp h).2.2
    simp [joinedM] at this
  | cons g gs =>
    rcases stands_joinF (gs := gs) h with h1 | ⟨y, hy, h1⟩
    · exact ⟨g, List.mem_cons_self .., h1⟩
    · exact ⟨y, List.mem_cons_of_mem _ hy, h1⟩
/-- so many more at a place -/
def addAt : Nat → Int → List Int → List Int
  | _, _, [] => []
  | 0, m, x :: l => (x + m) :: l
  | i + 1, m, x :: l => x :: addAt i m l
theorem addAt_len (m : Int) : ∀ (i : Nat) (l : List Int), (addAt i m l).length = l.length
  | 0, [] => rfl
  | _ + 1, [] => rfl
  | 0, _ :: _ => rfl
  | i + 1, _ :: l => congrArg (· + 1) (addAt_len m i l)
theorem addAt_sum (m : Int) : ∀ {i : Nat} {l : List Int}, i < l.length → (addAt i m l).sum = l.sum + m
  | 0, [], h => absurd h (by simp)
  | _ + 1, [], h => absurd h (by simp)
  | 0, x :: l, _ => by
    rw [addAt, List.sum_cons, List.sum_cons]
    omega
  | i + 1, x :: l, h => by
    rw [addAt, List.sum_cons, List.sum_cons, addAt_sum m (i := i) (l := l) (by simpa using h)]
    omega
theorem addAt_dot (m : Int) (sel : Pt → Int) : ∀ {i : Nat} {l : List Int} {P : List Pt} {p : Pt}, l.length = P.length → P[i]? = some p → (((addAt i m l).zip P).map fun q => q.1 * sel q.2).sum = ((l.zip P).map fun q => q.1 * sel q.2).sum + m * sel p
  | _, [], [], _, _, h => by simp at h
  | _, [], _ :: _, _, h, _ => by simp at h
  | _, _ :: _, [], _, h, _ => by simp at h
  | 0, x :: l, y :: P, p, _, h => by
    cases h
    rw [addAt, List.zip_cons_cons, List.zip_cons_cons, List.map_cons, List.map_cons, List.sum_cons, List.sum_cons]
    show (x + m) * sel y + _ = x * sel y + _ + m * sel y
    rw [Int.add_mul]
    omega
  | i + 1, x :: l, y :: P, p, hl, h => by
    rw [addAt, List.zip_cons_cons, List.zip_cons_cons, List.map_cons, List.map_cons, List.sum_cons, List.sum_cons, addAt_dot m sel (i := i) (l := l) (P := P) (by simpa using hl) h]
    omega
theorem addAt_get (m : Int) : ∀ (i : Nat) (l : List Int) (j : Nat) (x : Int), (addAt i m l)[j]? = some x → ∃ y, l[j]? = some y ∧ ((j = i ∧ x = y + m) ∨ (j ≠ i ∧ x = y))
  | 0, [], j, x, h => by simp [addAt] at h
  | _ + 1, [], j, x, h => by simp [addAt] at h
  | 0, y :: l, 0, x, h => by
    cases h
    exact ⟨y, rfl, .inl ⟨rfl, rfl⟩⟩
  | 0, y :: l, j + 1, x, h => ⟨x, h, .inr ⟨by omega, rfl⟩⟩
  | i + 1, y :: l, 0, x, h => by
    cases h
    exact ⟨y, rfl, .inr ⟨by omega, rfl⟩⟩
  | i + 1, y :: l, j + 1, x, h => by
    obtain ⟨z, h1, h2⟩ := addAt_get m i l j x h
    exact ⟨z, h1, h2.imp (fun h => ⟨by omega, h.2⟩) fun h => ⟨by omega, h.2⟩⟩
/-- what a row of takers tells of a person -/
theorem setF_get {α : Type} (f : Nat × Pt → α) : ∀ {r : Row} {l : List α} {el : Nat × Pt}, (r.map (·.1)).Nodup → el ∈ r → el.1 < l.length → (r.foldl (fun l e => l.set e.1 (f e)) l)[el.1]? = some (f el)
  | [], _, _, _, h, _ => absurd h (by simp)
  | e :: r, l, el, hn, h, hl => by
    rw [List.map_cons, List.nodup_cons] at hn
    rw [List.foldl_cons]
    by_cases hm : el ∈ r
    · exact setF_get f hn.2 hm (by rw [List.length_set]; exact hl)
    · have he : el = e := by
        rcases List.mem_cons.mp h with h | h
        · exact h
        · exact absurd h hm
      subst he
      have key : ∀ (r : Row) (l : List α), el.1 ∉ r.map (·.1) → (r.foldl (fun l e => l.set e.1 (f e)) l)[el.1]? = l[el.1]? := by
        intro r
        induction r with
        | nil => exact fun l _ => rfl
        | cons e r ih =>
          intro l h
          rw [List.map_cons, List.mem_cons, not_or] at h
          rw [List.foldl_cons, ih _ h.2, List.getElem?_set_ne (fun z => h.1 z.symm)]
      rw [key r _ hn.1, List.getElem?_set_self hl]
theorem ptsOf_at {np : Nat} {r : Row} (h : RowOk np r) {el : Nat × Pt} (he : el ∈ r) : (ptsOf np r)[el.1]? = some el.2 := setF_get (fun e => e.2) h.n he (by rw [List.length_replicate]; exact h.b el he)
theorem roomsOf_at {np : Nat} {r : Row} (h : RowOk np r) (many : Int) {el : Nat × Pt} (he : el ∈ r) : (roomsOf np many r)[el.1]? = some many := setF_get (fun _ => many) h.n he (by rw [List.length_replicate]; exact h.b el he)
theorem ptsOf_len (np : Nat) (r : Row) : (ptsOf np r).length = np := by rw [ptsOf, pts_of_len np, List.length_replicate]
theorem roomsOf_len (np : Nat) (many : Int) (r : Row) : (roomsOf np many r).length = np := by rw [roomsOf, rooms_of_len, List.length_replicate]
/-- the grid behind many things tells only what giving them leads to -/
theorem given_sound {np many ey : Nat} {r : Row} (h : RowOk np r) : ∀ (f : Nat) {g : Grid} {gv : Nat} {p : Pt}, gv ≤ many → many - gv ≤ f → standsM (givenF f g many gv (r.map (·.2)) ey) p = true → ∃ v : List Int, v.length = np ∧ v.sum = ((many - gv : Nat) : Int) ∧ (∀ (j : Nat) (x t : Int), v[j]? = some x → (roomsOf np (many : Int) r)[j]? = some t → 0 ≤ x ∧ (t = 0 → x = 0)) ∧ standsM g (backPt p (ptsOf np r) v) = true := by
  have zero : ∀ {g : Grid} {p : Pt}, standsM g p = true → ∃ v : List Int, v.length = np ∧ v.sum = 0 ∧ (∀ (j : Nat) (x t : Int), v[j]? = some x → (roomsOf np (many : Int) r)[j]? = some t → 0 ≤ x ∧ (t = 0 → x = 0)) ∧ standsM g (backPt p (ptsOf np r) v) = true := by
    intro g p hs
    have hz : ∀ (sel : Pt → Int) (n : Nat) (P : List Pt), (((List.replicate n (0 : Int)).zip P).map fun q => q.1 * sel q.2).sum = 0 := by
      intro sel n
      induction n with
      | zero => exact fun P => rfl
      | succ n ih =>
        intro P
        cases P with
        | nil => rfl
        | cons y P =>
          rw [List.replicate_succ, List.zip_cons_cons, List.map_cons, List.sum_cons, ih P]
          omega
    refine ⟨List.replicate np 0, by simp, ?_, fun j x t hx _ => ?_, ?_⟩
    · have : ∀ n : Nat, (List.replicate n (0 : Int)).sum = 0 := by
        intro n
        induction n with
        | zero => rfl
        | succ n ih => rw [List.replicate_succ, List.sum_cons, ih]; rfl
      exact this np
    · have := List.eq_of_mem_replicate (List.mem_of_getElem? hx)
      subst this
      exact ⟨by omega, fun _ => rfl⟩
    · unfold backPt
      rw [hz (fun q => q.1), hz (fun q => q.2), Int.sub_zero, Int.sub_zero]
      exact hs
  intro f
  induction f with
  | zero =>
    intro g gv p h1 h2 hs
    obtain ⟨v, a, b, c, d⟩ := zero (g := g) (p := p) hs
    exact ⟨v, a, by rw [b]; omega, c, d⟩
  | succ f ih =>
    intro g gv p h1 h2 hs
    unfold givenF at hs
    split at hs
    · rename_i hlt
      generalize hmo : min (many - gv) (gv / 2 + 1) = mo at hs
      obtain ⟨v, a, b, c, d⟩ := ih (gv := gv + mo) (by omega) (by omega) hs
      obtain ⟨g2, hg2, d2⟩ := stands_joined d
      obtain ⟨q, hq, rfl⟩ := List.mem_map.mp hg2
      obtain ⟨el, hel, rfl⟩ := List.mem_map.mp hq
      have d3 := stands_moved d2
      have hp := h.p el hel
      have hat := ptsOf_at h hel
      have hvl : el.1 < v.length := by
        rw [a]
        exact h.b el hel
      refine ⟨addAt el.1 mo v, by rw [addAt_len, a], by rw [addAt_sum mo hvl, b]; omega, fun j x t hx ht => ?_, ?_⟩
      · obtain ⟨y, hy, hxy⟩ := addAt_get mo el.1 v j x hx
        have hc := c j y t hy ht
        rcases hxy with ⟨rfl, rfl⟩ | ⟨_, rfl⟩
        · refine ⟨by omega, fun z => ?_⟩
          rw [roomsOf_at h (many : Int) hel] at ht
          cases ht
          omega
        · exact hc
      · have hb : backPt p (ptsOf np r) (addAt el.1 mo v) = ((backPt p (ptsOf np r) v).1 - ((mo * el.2.1.toNat : Nat) : Int), (backPt p (ptsOf np r) v).2 - ((mo * el.2.2.toNat : Nat) : Int)) := by
          unfold backPt
          rw [addAt_dot mo (fun q => q.1) (by rw [a, ptsOf_len]) hat, addAt_dot mo (fun q => q.2) (by rw [a, ptsOf_len]) hat]
          have e1 : ((mo * el.2.1.toNat : Nat) : Int) = (mo : Int) * el.2.1 := by rw [Int.natCast_mul, Int.toNat_of_nonneg hp.1.1]
          have e2 : ((mo * el.2.2.toNat : Nat) : Int) = (mo : Int) * el.2.2 := by rw [Int.natCast_mul, Int.toNat_of_nonneg hp.2.1]
          rw [e1, e2]
          refine Prod.ext ?_ ?_
          · show _ - (_ + _) = _ - _ - _
            omega
          · show _ - (_ + _) = _ - _ - _
            omega
        rw [hb]
        exact d3
    · obtain ⟨v, a, b, c, d⟩ := zero (g := g) (p := p) hs
      exact ⟨v, a, by rw [b]; omega, c, d⟩
theorem sum_ge {x : Int} : ∀ {l : List Int}, (∀ y ∈ l, 0 ≤ y) → x ∈ l → x ≤ l.sum
  | [], _, h => absurd h (by simp)
  | y :: l, h0, h => by
    have h1 := sum_nn fun z hz => h0 z (List.mem_cons_of_mem y hz)
    have h2 := h0 y (List.mem_cons_self ..)
    rw [List.sum_cons]
    rcases List.mem_cons.mp h with rfl | h
    · omega
    · have := sum_ge (fun z hz => h0 z (List.mem_cons_of_mem y hz)) h
      omega
/-- all tuples of so many together, none greater than its room, are ways -/
theorem ways_all : ∀ {rs v : List Int}, 1 ≤ rs.length → v.length = rs.length → (∀ (j : Nat) (x t : Int), v[j]? = some x → rs[j]? = some t → 0 ≤ x ∧ x ≤ t) → v ∈ waysM rs v.sum
  | [], _, h, _, _ => absurd h (by simp)
  | [r], v, _, hl, h => by
    obtain ⟨x, rfl⟩ : ∃ x, v = [x] := by
      match v, hl with
      | [x], _ => exact ⟨x, rfl⟩
    have h0 := h 0 x r rfl rfl
    have hs : [x].sum = x := by simp
    unfold waysM
    rw [hs, if_pos h0.2]
    exact List.mem_singleton.mpr rfl
  | r :: s :: rs, v, _, hl, h => by
    obtain ⟨x, v', rfl⟩ : ∃ x v', v = x :: v' := by
      match v, hl with
      | x :: v', _ => exact ⟨x, v', rfl⟩
    have h0 := h 0 x r rfl rfl
    have hl' : v'.length = (s :: rs).length := by simpa using hl
    have h' : ∀ (j : Nat) (x t : Int), v'[j]? = some x → (s :: rs)[j]? = some t → 0 ≤ x ∧ x ≤ t := fun j x t h1 h2 => h (j + 1) x t h1 h2
    have ih := ways_all (rs := s :: rs) (v := v') (by simp) hl' h'
    have hnn : ∀ y ∈ v', 0 ≤ y := fun y hy => by
      obtain ⟨j, hj, rfl⟩ := List.mem_iff_getElem.mp hy
      have hj2 : j < (s :: rs).length := by omega
      exact (h' j _ _ (List.getElem?_eq_getElem hj) (List.getElem?_eq_getElem hj2)).1
    have hle : ∀ {a b : List Int}, a.length = b.length → (∀ (j : Nat) (x t : Int), a[j]? = some x → b[j]? = some t → x ≤ t) → a.sum ≤ b.sum := by
      intro a
      induction a with
      | nil =>
        intro b hb _
        cases b with
        | nil => exact Int.le_refl _
        | cons y b => cases hb
      | cons x a ih =>
        intro b hb hc
        cases b with
        | nil => cases hb
        | cons y b =>
          have h1 := hc 0 x y rfl rfl
          have h2 := ih (b := b) (by simpa using hb) fun j x t z1 z2 => hc (j + 1) x t z1 z2
          rw [List.sum_cons, List.sum_cons]
          omega
    have h2 := hle hl' fun j x t z1 z2 => (h' j x t z1 z2).2
    have h3 := sum_nn hnn
    rw [List.sum_cons]
    unfold waysM
    refine List.mem_flatten.mpr ⟨_, List.mem_map.mpr ⟨(x - max 0 (x + v'.sum - (s :: rs).sum)).toNat, List.mem_range.mpr (by omega), rfl⟩, List.mem_map.mpr ⟨v', ?_, ?_⟩⟩
    · have : x + v'.sum - (max 0 (x + v'.sum - (s :: rs).sum) + ((x - max 0 (x + v'.sum - (s :: rs).sum)).toNat : Int)) = v'.sum := by omega
      rw [this]
      exact ih
    · have : max 0 (x + v'.sum - (s :: rs).sum) + ((x - max 0 (x + v'.sum - (s :: rs).sum)).toNat : Int) = x := by omega
      rw [this]
/-- a step back is always found -/
theorem step_back_found {np many ey : Nat} {r : Row} {g : Grid} {p : Pt} (h : RowOk np r) (hnp : 1 ≤ np) (hs : standsM (givenM g many (r.map (·.2)) ey) p = true) : ∃ s, stepBackM np (many : Int) r g p = some s ∧ standsM g s.2 = true ∧ s.2.1 ≤ p.1 ∧ s.1.length = np := by
  obtain ⟨v, a, b, c, d⟩ := given_sound h many (g := g) (gv := 0) (p := p) (by omega) (by omega) hs
  have hvnn : ∀ y ∈ v, 0 ≤ y := fun y hy => by
    obtain ⟨j, hj, rfl⟩ := List.mem_iff_getElem.mp hy
    have hj2 : j < (roomsOf np (many : Int) r).length := by rw [roomsOf_len]; omega
    exact (c j _ _ (List.getElem?_eq_getElem hj) (List.getElem?_eq_getElem hj2)).1
  have hroom : ∀ t ∈ roomsOf np (many : Int) r, t = 0 ∨ t = (many : Int) := by
    have key : ∀ (r : Row) (l : List Int), (∀ t ∈ l, t = 0 ∨ t = (many : Int)) → ∀ t ∈ r.foldl (fun l e => l.set e.1 (many : Int)) l, t = 0 ∨ t = (many : Int) := by
      intro r
      induction r with
      | nil => exact fun l h => h
      | cons e r ih =>
        intro l h
        refine ih _ fun t ht => ?_
        rcases List.mem_or_eq_of_mem_set ht with h1 | h1
        · exact h t h1
        · exact .inr h1
    exact key r _ fun t ht => .inl (List.eq_of_mem_replicate ht)
  have hw : v ∈ waysM (roomsOf np (many : Int) r) (many : Int) := by
    have := ways_all (rs := roomsOf np (many : Int) r) (v := v) (by rw [roomsOf_len]; exact hnp) (by rw [a, roomsOf_len]) fun j x t hx ht => by
      have h1 := c j x t hx ht
      refine ⟨h1.1, ?_⟩
      have h2 := sum_ge hvnn (List.mem_of_getElem? hx)
      rcases hroom t (List.mem_of_getElem? ht) with rfl | rfl
      · rw [h1.2 rfl]
        omega
      · omega
    rwa [b] at this
  unfold stepBackM
  cases hf : (waysM (roomsOf np (many : Int) r) (many : Int)).find? fun c => standsM g (backPt p (ptsOf np r) c) with
  | none =>
    have := List.find?_eq_none.mp hf v hw
    exact absurd d this
  | some w =>
    have h1 := List.find?_some hf
    have h2 := List.mem_of_find?_eq_some hf
    have hwn := ways_nn (roomsOf np (many : Int) r) (n := (many : Int)) (by omega) w h2
    have hpn : ∀ q ∈ ptsOf np r, (0 ≤ q.1 ∧ q.1 ≤ 6) ∧ (0 ≤ q.2 ∧ q.2 ≤ 6) := pts_of_in r _ h.p fun q hq => by
      rw [List.eq_of_mem_replicate hq]
      decide
    have hd := dot_nn (c := w) (fun x hx => (hwn x hx).1) hpn
    refine ⟨_, rfl, h1, ?_, ?_⟩
    · show p.1 - _ ≤ p.1
      omega
    · show w.length = np
      rw [ways_el _ _ w h2, roomsOf_len]
end K11

namespace K11
open PySem PySem.Spec PyProof.Rows L2 Z ZE RZ
local macro_rules | `(tactic| walk_at "rd") => `(tactic| try simp only [cxOf, tSeq, tIfS, tRet, tRetN, tAsg, tDrop, tNext, tBreak, tCont, tNever, tPar, tPar3, tAug, gName, gTup, gCons, gNil, gSub, tVar, tC, tOp, tUn, tCB, tBM, tBM0, tCons, tNil, tTest, tB, tAnd, tOr, tNot, tAndV, tOrV, tNotV, tIf, tChain,
  tTup, tLst, tCall, tMeth, tSl, tPart, tNoPart, tM1, tFmt, tJs_nil, tJs_cons, tCKw, rI0, rI, rU, rEq, rNe, scal_ii, scal_ss, scal_bb, ipI, iStr, iTup, iList, iRng1, sFld, tFld, L2.start, List.getElem?_cons_zero, List.getElem?_cons_succ, List.set_cons_zero, List.set_cons_succ, Option.some.injEq, V.int.injEq, V.bl.injEq, V.str.injEq, V.ref.injEq,
  List.cons.injEq, exists_and_left, exists_eq_left', exists_eq_left, exists_eq_right, exists_eq_right', exists_eq', exists_eq, and_true, true_and, and_self, List.map_cons, List.map_nil, List.length_cons, List.length_nil, List.replicate_succ, List.replicate_zero, List.cons_append, List.nil_append, List.append_nil,
  Nat.add_sub_cancel, Nat.reduceAdd, Nat.reduceSub, if_true, if_false, ite_true, ite_false, Bool.not_true, Bool.not_false, Bool.true_eq_false, Bool.false_eq_true, reduceIte, reduceCtorEq, false_and, exists_false, or_false, false_or, decide_true, decide_false, wipe])

section
variable {P : Program} {w : World} {K : PySem.W.Frag} {mg : Str → Option Value} {base : Heap} {C : Addr}
/-- for i in reversed(range(n)) -/
theorem forRev {σ : L2.St} {H : Hp} {tr : L2.St → Hp → (Int → Int → Hp → Prop) → Prop} {g : TG} {tb : TS} {Dn : Ends} (n : Nat) (ht : ∀ R : Int → Int → Hp → Prop, R 0 (n : Int) H → tr σ H R) (hn : n ≤ 100000) (Pv : Nat → L2.St → Hp → Prop) (h0 : Pv 0 σ H)
    (hs : ∀ (i j : Nat) σ' H', i < n → j = n - 1 - i → Pv i σ' H' → g (.int (j : Int)) σ' H' fun σ2 H2 => tb { Dn with nx := Pv (i + 1), ct := Pv (i + 1), bk := Dn.nx } σ2 H2)
    (hd : ∀ σ' H', Pv n σ' H' → Dn.nx σ' H') : tFor (iRevR tr) g tb Dn σ H := by
  refine ht _ ⟨by decide, by decide, by omega, by omega, ?_⟩
  have e : ((n : Int) - 0).toNat = n := by omega
  rw [e]
  refine for_it walk_rangeC Pv h0 (fun _ _ _ _ _ => trivial) (fun i x σ' H' H'' hi p y => ?_) hd
  obtain ⟨rfl, rfl⟩ := y
  have h := hs i (n - 1 - i) σ' H'' hi rfl p
  have e2 : (0 + (n : Int) - 1 + (i : Int) * (-1)) = ((n - 1 - i : Nat) : Int) := by omega
  show g (V.int (0 + (n : Int) - 1 + (i : Int) * (-1))) σ' H'' _
  rw [e2]
  exact h
def gridL (n ey : Nat) : List (Kd × Row) → Grid → List Grid
  | [], g => [g]
  | q :: l, g => g :: gridL n ey l (givenM g (n * q.1.c.toNat) (q.2.map (·.2)) ey)
theorem gridL_fold (n ey : Nat) : ∀ (l : List (Kd × Row)) (g : Grid) (acc : List Grid), (l.foldl (gridStep n ey) (g, acc ++ [g])).2 = acc ++ gridL n ey l g
  | [], g, acc => rfl
  | q :: l, g, acc => by
    rw [List.foldl_cons]
    have h := gridL_fold n ey l (givenM g (n * q.1.c.toNat) (q.2.map (·.2)) ey) (acc ++ [g])
    refine Eq.trans h ?_
    rw [List.append_assoc]
    rfl
theorem gridL_len (n ey : Nat) : ∀ (l : List (Kd × Row)) (g : Grid), (gridL n ey l g).length = l.length + 1
  | [], _ => rfl
  | q :: l, g => congrArg (· + 1) (gridL_len n ey l _)
theorem gridL_at {n ey : Nat} : ∀ {l : List (Kd × Row)} {g : Grid} {i : Nat} {q : Kd × Row}, (∀ q ∈ l, q.2 ≠ []) → GrB ey g → l[i]? = some q → ∃ gi, (gridL n ey l g)[i]? = some gi ∧ (gridL n ey l g)[i + 1]? = some (givenM gi (n * q.1.c.toNat) (q.2.map (·.2)) ey) ∧ GrB ey gi ∧ gi.length = g.length
  | [], _, _, _, _, _, h => by simp at h
  | q :: l, g, 0, _, _, hb, h => by
    cases h
    refine ⟨g, rfl, ?_, hb, rfl⟩
    show (gridL n ey l _)[0]? = _
    cases l <;> rfl
  | q :: l, g, i + 1, q2, hn, hb, h => by
    have hg := givenF_b (ey := ey) (n := g.length) (pts := q.2.map (·.2)) (by simpa using hn q (List.mem_cons_self ..)) (n * q.1.c.toNat) (g := g) (many := n * q.1.c.toNat) (gv := 0) ⟨hb, rfl⟩
    obtain ⟨gi, h1, h2, h4, h3⟩ := gridL_at (l := l) (g := givenM g (n * q.1.c.toNat) (q.2.map (·.2)) ey) (i := i) (q := q2) (fun x hx => hn x (List.mem_cons_of_mem _ hx)) hg.1 h
    exact ⟨gi, h1, h2, h4, h3.trans hg.2⟩
theorem lastD {α : Type} (l : List α) (d : α) : l.getLastD d = l.getD (l.length - 1) d := by
  rw [List.getLastD_eq_getLast?, List.getLast?_eq_getElem?, List.getD_eq_getElem?_getD]
theorem worth72 {ks : List Kd} {m : Nat} (h : ∀ k ∈ ks, Kd.ok m k) (hl : ks.length ≤ 4) (j : Nat) : 0 ≤ worth ks j ∧ worth ks j ≤ 72 := by
  have key : ∀ l : List Kd, (∀ k ∈ l, Kd.ok m k) → 0 ≤ worth l j ∧ worth l j ≤ 18 * l.length := by
    intro l
    induction l with
    | nil => exact fun _ => ⟨Int.le_refl 0, Int.le_refl 0⟩
    | cons k l ih =>
      intro hk
      have h1 := ih fun x hx => hk x (List.mem_cons_of_mem _ hx)
      have h2 := hk k (List.mem_cons_self ..)
      have e : worth (k :: l) j = k.c * k.w.getD j 0 + worth l j := by simp [worth]
      have h3 : 0 ≤ k.w.getD j 0 ∧ k.w.getD j 0 ≤ 6 := by
        rw [List.getD_eq_getElem?_getD]
        cases e4 : k.w[j]? with
        | none => exact ⟨by decide, by decide⟩
        | some x => exact h2.w x (List.mem_of_getElem? e4)
      have h5 : 0 ≤ k.c * k.w.getD j 0 ∧ k.c * k.w.getD j 0 ≤ 18 := by
        have hc := h2.c
        generalize k.w.getD j 0 = y at h3
        have hc3 : k.c = 1 ∨ k.c = 2 ∨ k.c = 3 := by omega
        rcases hc3 with e | e | e <;> rw [e] <;> omega
      rw [e, List.length_cons]
      omega
  have := key ks h
  omega
/-- what is due of a few boxes is near -/
theorem due_in {o : Od} (ho : o.ok) {n : Nat} (hn : n ≤ 12) {l : List Int} (h : wholeM o (n : Int) = some l) : (0 ≤ (ptOf o.m l).1 ∧ (ptOf o.m l).1 ≤ 1000) ∧ (0 ≤ (ptOf o.m l).2 ∧ (ptOf o.m l).2 ≤ 1000) := by
  unfold wholeM at h
  split at h
  · rename_i hall
    cases h
    refine ptOf_mem (p := fun x => 0 ≤ x ∧ x ≤ 1000) (by decide) fun x hx => ?_
    obtain ⟨q, hq, rfl⟩ := List.mem_map.mp hx
    have h1 : q.2 = 1 := by simpa using List.all_eq_true.mp hall q hq
    obtain ⟨l, hl, hq⟩ := List.mem_flatten.mp hq
    obtain ⟨p, hp, rfl⟩ := List.mem_map.mp hl
    obtain ⟨j, _, rfl⟩ := List.mem_map.mp hq
    have hw := worth72 ho.k2 ho.k1.2 j
    have hs := (ho.p3 p hp).s
    have hP := P_in ho
    have hsP : p.s ≤ o.P := by
      unfold Z.Od.P shares
      exact sum_ge (fun y hy => by
        obtain ⟨z, hz, rfl⟩ := List.mem_map.mp hy
        have := (ho.p3 z hz).s
        omega) (List.mem_map.mpr ⟨p, hp, rfl⟩)
    unfold lowest at h1 ⊢
    change shares o.ps / gcdI ((n : Int) * worth o.ks j * p.s) (shares o.ps) = 1 at h1
    show 0 ≤ (n : Int) * worth o.ks j * p.s / gcdI ((n : Int) * worth o.ks j * p.s) (shares o.ps) ∧ (n : Int) * worth o.ks j * p.s / gcdI ((n : Int) * worth o.ks j * p.s) (shares o.ps) ≤ 1000
    have hPs : shares o.ps = o.P := rfl
    rw [hPs] at h1 ⊢
    have hnw : 0 ≤ (n : Int) * worth o.ks j ∧ (n : Int) * worth o.ks j ≤ 12 * 72 := ⟨Int.mul_nonneg (by omega) hw.1, Int.mul_le_mul (by omega) hw.2 hw.1 (by omega)⟩
    generalize (n : Int) * worth o.ks j = W at h1 hnw ⊢
    have hg : gcdI (W * p.s) o.P = o.P := by
      have hd : gcdI (W * p.s) o.P ∣ o.P := Int.dvd_natAbs.mp (Int.natCast_dvd_natCast.mpr (Nat.gcd_dvd_right _ _))
      have := Int.ediv_mul_cancel hd
      rw [h1, Int.one_mul] at this
      exact this
    rw [hg]
    have hWs : 0 ≤ W * p.s := Int.mul_nonneg hnw.1 (by omega)
    have hle : W * p.s ≤ W * o.P := Int.mul_le_mul_of_nonneg_left hsP hnw.1
    have hle2 : W * p.s / o.P ≤ W * o.P / o.P := Int.ediv_le_ediv hP.1 hle
    rw [Int.mul_ediv_cancel _ (by omega)] at hle2
    have := Int.ediv_nonneg hWs (show 0 ≤ o.P by omega)
    omega
  · cases h
theorem dts_app {H : Hp} : ∀ {xs : List V} {ds : List D} {ys : List V} {es : List D}, DTs K H xs ds → DTs K H ys es → DTs K H (xs ++ ys) (ds ++ es)
  | [], [], _, _, _, h => h
  | _ :: _, _ :: _, _, _, .cons h1 h2, h => .cons h1 (dts_app h2 h)
theorem dts_rev {H : Hp} : ∀ {xs : List V} {ds : List D}, DTs K H xs ds → DTs K H xs.reverse ds.reverse
  | [], [], _ => .nil
  | _ :: _, _ :: _, .cons h1 h2 => by
    rw [List.reverse_cons, List.reverse_cons]
    exact dts_app (dts_rev h2) (.cons h1 .nil)
abbrev s_fill : Stmt := topS 70
theorem sc_fill : FnScope ["order", "boxes", "chances", "due", "end", "grids", "columns", "at", "column", "person"] ["order", "boxes", "chances"] (defScope s_fill) := ⟨rfl, rfl, rfl, by decide +kernel, rfl, by decide +kernel, by decide +kernel⟩
def fillD : Option (List (List Int)) → D
  | none => .non
  | some l => .tup (l.map wayD)
def spFill (K : PySem.W.Frag) (C : Addr) : Sp := fun vs H Q _ => ∃ (x : Addr) (o : Od) (n : Nat) (v : V) (ch : List Row), vs = [.ref x, .int (n : Int), v] ∧ OrdAt K C H x o ∧ n ≤ 12 ∧ DT K H v (chD ch) ∧ ChOk ch ∧ (∀ r ∈ ch, RowOk o.np r) ∧ ch.length = o.ks.length ∧ ∀ t H', Ex H H' → DT K H' t (fillD (fillM o n ch)) → Q t H'
theorem ok_fill (B : Bl mg) (p_kinds : Prp P w K mg base 1 C "kinds" "_kinds") (p_people : Prp P w K mg base 1 C "people" "_people") (p_measures : Prp P w K mg base 1 C "measures" "_measures") (c_whole_due : Cal P w K mg base 5 "whole_due" ["order", "boxes"] (spWhole K C)) (c_point_of : Cal P w K mg base 1 "point_of" ["flat", "measures"] (spPtOf K)) (c_grids : Cal P w K mg base 3 "_grids" ["order", "boxes", "chances", "end"] (spGrids K C)) (c_stands : Cal P w K mg base 1 "_stands" ["grid", "point"] (spStands K)) (c_step_back : Cal P w K mg base 5 "_step_back" ["order", "many", "row", "grid", "end"] (spBack K C)) (c_row_across : Cal P w K mg base 1 "_row_across" ["columns", "at"] (spRowA K)) (D0 : Df K mg "fill" s_fill) : Cal P w K mg base 6 "fill" ["order", "boxes", "chances"] (spFill K C) := by
  refine D0.cal sc_fill (fun _ _ _ _ _ _ us hl => match us, hl with | [_, _, _], _ => rfl) (fun vs H Q E h => ?_) (fun f cdv A outer s H vs Q E hr h => ?_)
  · obtain ⟨x, o, n, v, ch, rfl, _⟩ := h
    rfl
  · obtain ⟨x, o, n, v, ch, rfl, O, hn, hv, hc, hro, hl, q⟩ := h
    refine ⟨_, (pss_cons (ps_set (i := 3) sc_fill.nd rfl (.inl rfl) (pe_cal c_whole_due hr (by decide) rfl (pa_cons (pv 0) (pa_cons (pv 1) pa_nil))))
      (pss_cons (ps_if (pt_cmpR op_isN (pv 3) pe_non (nomark _)) (pss_one (ps_ret pe_non)) pss_nil)
      (pss_cons (ps_set (i := 4) sc_fill.nd rfl (.inl rfl) (pe_cal c_point_of hr (by decide) rfl (pa_cons (pv 3) (pa_cons (pe_callB (r := rLenQ K) call_len_seq (by rfl) B.len_ PySem.boot_len (pa_cons (pe_prp p_measures hr (by decide) (pv 0)) pa_nil)) pa_nil))))
      (pss_cons (ps_set (i := 5) sc_fill.nd rfl (.inl rfl) (pe_cal c_grids hr (by decide) rfl (pa_cons (pv 0) (pa_cons (pv 1) (pa_cons (pv 2) (pa_cons (pv 4) pa_nil))))))
      (pss_cons (ps_if (pt_not (pt_val (pe_cal c_stands hr (by decide) rfl (pa_cons (pe_ix (r := rIxL K) ix_list (pv 5) (pe_un un_neg pe_int) (fun _ _ => rfl)) (pa_cons (pv 4) pa_nil))))) (pss_one (ps_ret pe_non)) pss_nil)
      (pss_cons (ps_set (i := 6) sc_fill.nd rfl (.inr rfl) (pe_lst pa_nil))
      (pss_cons (ps_for PassesOwn.never rfl (pi_revR (by rfl) B.reversed_ (prg_1 (by rfl) B.range_ (pe_callB (r := rLenQ K) call_len_seq (by rfl) B.len_ PySem.boot_len (pa_cons (pv 2) pa_nil)))) (pg_name (i := 7) sc_fill.nd rfl (.inl rfl)) (pss_cons (ps_asg (pe_cal c_step_back hr (by decide) rfl (pa_cons (pv 0) (pa_cons (pe_op op_mul (pv 1) (pe_ix (r := rIxT K) ix_tup (pe_ix (r := rIxT K) ix_tup (pe_prp p_kinds hr (by decide) (pv 0)) (pv 7) (fun _ _ => rfl)) pe_int (fun _ _ => rfl))) (pa_cons (pe_ix (r := rIxT K) ix_tup (pv 2) (pv 7) (fun _ _ => rfl)) (pa_cons (pe_ix (r := rIxL K) ix_list (pv 5) (pv 7) (fun _ _ => rfl)) (pa_cons (pv 4) pa_nil)))))) (pg_tup rfl (pgs_cons (pg_name (i := 8) sc_fill.nd rfl (.inl rfl)) (pgs_cons (pg_name (i := 4) sc_fill.nd rfl (.inl rfl)) pgs_nil))))
      (pss_one (ps_expr (pe_bm PySem.F.plainAttrs_list PySem.F.slot_list_append PySem.F.type_list_append mt_append (pv 6) (pa_cons (pv 8) pa_nil))))))
      (pss_cons (ps_expr (pe_bm0 PySem.F.plainAttrs_list PySem.F.slot_list_reverse PySem.F.type_list_reverse mt_reverse (pv 6)))
      (pss_one (ps_ret (pe_callTy (r := rTupOf K) call_tuple_of (by rfl) B.tuple_ (by decide +kernel) (pa_cons (pe_lc (own := [("person", 9)]) (g := gName 9) rfl sc_fill.nd (pi_range1 rfl B.range_ (pa_cons (pe_callB (r := rLenQ K) call_len_seq (by rfl) B.len_ PySem.boot_len (pa_cons (pe_prp p_people hr (by decide) (pv 0)) pa_nil)) pa_nil)) (blkOk_by (N := ["order", "boxes", "chances", "due", "end", "grids", "columns", "at", "column", "person"]) (sc := defScope s_fill) (by decide +kernel)) (fun _ _ _ _ _ => (pg_name (i := 9) sc_fill.nd rfl (.inl rfl))) (fun _ _ _ _ _ => pts_nil) (fun _ _ _ _ _ => (pe_cal c_row_across hr (by decide) rfl (pa_cons (pv 6) (pa_cons (pv 9) pa_nil))))) pa_nil)))))))))))), ?_⟩
    walk_at "rd"
    have ho := O.ok
    have hk1 := ho.k1
    have hp1 := ho.p1
    have hm1 := ho.m1
    have hfM : fillM o n ch = match wholeM o n with
      | none => none
      | some due => if standsM ((gridsM o n ch (ptOf o.m due)).getLastD []) (ptOf o.m due) = true then some ((List.range o.np).map fun i => (backM o.np (((o.ks.zip (ch.zip (gridsM o n ch (ptOf o.m due)))).map fun q => ((n : Int) * q.1.c, q.2.1, q.2.2)).reverse) (ptOf o.m due)).reverse.map fun c => c.getD i 0) else none := rfl
    refine ⟨x, o, (n : Int), rfl, O, by omega, fun H1 e1 hw => ?_, fun b due H1 e1 hw hS => ?_⟩
    · rw [hfM, hw] at q
      exact iteT (q _ _ e1 .non)
    rw [hfM, hw] at q
    have hin := due_in ho hn hw
    have hdl : due.length = o.np * o.m := by
      unfold wholeM at hw
      split at hw
      · cases hw
        rw [List.length_map, dueF, flat_len (n := o.m) _ fun p _ => by rw [dueP, List.length_map, List.length_range]; rfl]
        rfl
      · cases hw
    have hnm : 2 * o.m ≤ o.np * o.m := Nat.mul_le_mul hp1.1 (Nat.le_refl _)
    have hnm2 : o.np * o.m ≤ 3 * 2 := Nat.mul_le_mul hp1.2 hm1.2
    have hm1' : 1 ≤ o.m := hm1.1
    refine iteF ?_
    refine msr rfl (O.up e1 id) fun c hc0 => ⟨c, _, rfl, .inr hc0, ?_⟩
    rw [List.length_map]
    refine ⟨b, due, o.m, rfl, .inl hS, hm1', by omega, by omega, fun pe H2 e2 hpe => ?_⟩
    have E2 := e1.trans e2
    simp only at q
    generalize ptOf o.m due = e0 at hin hpe q
    have hch := hv.mono E2.any
    refine ⟨x, o, n, v, ch, .ref pe, e0, rfl, O.up E2 id, hn, hch, hc, hl, hpe, hin.1, hin.2, fun G H3 e3 hG => ?_⟩
    have E3 := E2.trans e3
    have hgr : gridsM o n ch e0 = gridL n e0.2.toNat (o.ks.zip ch) (grid0 e0.1.toNat) := gridL_fold n e0.2.toNat (o.ks.zip ch) (grid0 e0.1.toNat) []
    have hg0b := grid0_b (ex := e0.1.toNat) (ey := e0.2.toNat) (by omega)
    have hzl : (o.ks.zip ch).length = o.ks.length := by rw [List.length_zip]; omega
    have hgl : (gridsM o n ch e0).length = o.ks.length + 1 := by rw [hgr, gridL_len, hzl]
    have hzn : ∀ q ∈ o.ks.zip ch, q.2 ≠ [] := fun q hq => (hc.r q.2 (List.of_mem_zip hq).2).1
    have hat : ∀ (i : Nat) (k : Kd) (r : Row), o.ks[i]? = some k → ch[i]? = some r → ∃ gi, (gridsM o n ch e0)[i]? = some gi ∧ (gridsM o n ch e0)[i + 1]? = some (givenM gi (n * k.c.toNat) (r.map (·.2)) e0.2.toNat) ∧ GrB e0.2.toNat gi ∧ gi.length = e0.1.toNat + 1 := fun i k r h1 h2 => by
      obtain ⟨gi, a, b, d, c⟩ := gridL_at (n := n) (q := (k, r)) hzn hg0b.1 (List.getElem?_zip_eq_some.mpr ⟨h1, h2⟩)
      rw [hgr]
      exact ⟨gi, a, b, d, c.trans hg0b.2⟩
    -- the last grid
    obtain ⟨kl, hkl⟩ : ∃ k, o.ks[o.ks.length - 1]? = some k := ⟨_, List.getElem?_eq_getElem (by omega)⟩
    obtain ⟨rl, hrl⟩ : ∃ r, ch[o.ks.length - 1]? = some r := ⟨_, List.getElem?_eq_getElem (by omega)⟩
    obtain ⟨gm, hgm1, hgm2, hgmb, hgm3⟩ := hat _ kl rl hkl hrl
    rw [show o.ks.length - 1 + 1 = o.ks.length by omega] at hgm2
    have hrlm := List.mem_of_getElem? hrl
    have hlast : (gridsM o n ch e0).getLastD [] = givenM gm (n * kl.c.toNat) (rl.map (·.2)) e0.2.toNat := by
      rw [lastD, hgl, show o.ks.length + 1 - 1 = o.ks.length by omega, List.getD_eq_getElem?_getD, hgm2]
      rfl
    rw [hlast] at q
    obtain ⟨bs, fG, hbl, hbs⟩ := hG
    obtain ⟨bl, hbll⟩ : ∃ b, bs[o.ks.length]? = some b := ⟨_, List.getElem?_eq_getElem (by omega)⟩
    have fbl := hbs _ bl _ hbll hgm2
    refine ⟨G, _, -1, _, rfl, rfl, sqL fG, (show atI (bs.map V.ref) (-1) = some (.ref bl) from ?_), ?_⟩
    · unfold atI
      rw [ixN, if_neg (by decide), if_pos (by rw [List.length_map]; omega)]
      show (bs.map V.ref)[((-1 : Int) + ((bs.map V.ref).length : Int)).toNat]? = _
      rw [List.length_map, show ((-1 : Int) + (bs.length : Int)).toNat = o.ks.length by omega, List.getElem?_map, hbll]
      rfl
    have hwl : (givenM gm (n * kl.c.toNat) (rl.map (·.2)) e0.2.toNat).length = e0.1.toNat + 1 := by
      have := givenF_b (ey := e0.2.toNat) (n := gm.length) (pts := rl.map (·.2)) (by simpa using (hc.r rl hrlm).1) (n * kl.c.toNat) (g := gm) (many := n * kl.c.toNat) (gv := 0) ⟨hgmb, rfl⟩
      exact this.2.trans hgm3
    refine ⟨bl, _, .ref pe, e0, rfl, sqL fbl, hpe.mono e3.any, by rw [hwl]; omega, _, rfl, ?_⟩
    cases hst : standsM (givenM gm (n * kl.c.toNat) (rl.map (·.2)) e0.2.toNat) e0 with
    | false =>
      rw [hst] at q
      exact iteT (q _ _ E3 .non)
    | true =>
      rw [hst, if_pos rfl] at q
      refine iteF ⟨by decide, fun p hp => ?_⟩
      obtain ⟨va, vxs, rfl, Sv, dv⟩ := dtT hv
      have hvl := dv.lenM
      have hpH : H p = none := E3.free hp
      have hGp : G ≠ p := fun z => by
        rw [z, hp] at fG
        cases fG
      have hbp : ∀ (i : Nat) (b : Addr) (g : Grid), bs[i]? = some b → (gridsM o n ch e0)[i]? = some g → b ≠ p := fun i b g h1 h2 z => by
        have := hbs i b g h1 h2
        rw [z, hp] at this
        cases this
      have e4 : Ex H3 (upd H3 p (.lst [])) := .new hp
      have f4 := upd_same (H := H3) (a := p) (o := .lst [])
      have E4 := E3.trans e4
      have fG4 := e4.get fG
      have hbs4 := fun i b g h1 h2 => e4.get (hbs i b g h1 h2)
      have hpe4 := hpe.mono (e3.trans e4).any
      generalize upd H3 p (.lst []) = H4 at E4 f4 fG4 hbs4 hpe4 ⊢
      generalize hLq : ((o.ks.zip (ch.zip (gridsM o n ch e0))).map fun q => ((n : Int) * q.1.c, q.2.1, q.2.2)).reverse = Lq at q
      have hLl : Lq.length = o.ks.length := by
        rw [← hLq, List.length_reverse, List.length_map, List.length_zip, List.length_zip]
        omega
      refine forRev o.ks.length (fun R h => ⟨_, rfl, va, _, rfl, .inr (E4.seqT Sv), _, rfl, by rw [hvl, hl]; exact h⟩) (by omega) (fun i σ' H' => ∃ (y7 y8 y9 : Option V) (ev : V) (ept : Pt) (cv : List V) (cs : List (List Int)), σ' = [some (.ref x), some (.int (n : Int)), some (.ref va), some (.ref b), some ev, some (.ref G), some (.ref p), y7, y8, y9] ∧ (Ex H H' ∧ H' p = some (.lst cv) ∧ DTs K H' cv (cs.map wayD) ∧ DT K H' ev (ptD ept) ∧ H' G = some (.lst (bs.map V.ref)) ∧ ∀ (i : Nat) (b : Addr) (g : Grid), bs[i]? = some b → (gridsM o n ch e0)[i]? = some g → H' b = some (.lst (grV g))) ∧ ept.1 ≤ e0.1 ∧ backM o.np Lq e0 = cs ++ backM o.np (Lq.drop i) ept ∧ cs.length = i ∧ (∀ c ∈ cs, c.length = o.np) ∧ ∃ g, (gridsM o n ch e0)[o.ks.length - i]? = some g ∧ standsM g ept = true) ⟨_, _, _, _, e0, [], [], rfl, ⟨E4, f4, .nil, hpe4, fG4, hbs4⟩, Int.le_refl _, rfl, rfl, (fun c hc => absurd hc (by simp)), _, hgm2, hst⟩ ?_ ?_
      · rintro i j σ' H' hi hj ⟨y7, y8, y9, ev, ept, cv, cs, rfl, ⟨e, fp, dcs, dev, fG', hbs'⟩, hle, hbk, hcl, hcn, gE, hgE, hsE⟩
        obtain ⟨k, hk⟩ : ∃ k, o.ks[j]? = some k := ⟨_, List.getElem?_eq_getElem (by omega)⟩
        obtain ⟨r, hr⟩ : ∃ r, ch[j]? = some r := ⟨_, List.getElem?_eq_getElem (by omega)⟩
        obtain ⟨gi, hg1, hg2, hg3, hg4⟩ := hat j k r hk hr
        rw [show j + 1 = o.ks.length - i by omega, hgE] at hg2
        cases hg2
        have hrm := List.mem_of_getElem? hr
        have hkok := ho.k2 k (List.mem_of_getElem? hk)
        have hkc := hkok.c
        have hnc : (n : Int) * k.c = ((n * k.c.toNat : Nat) : Int) := by rw [Int.natCast_mul, Int.toNat_of_nonneg (by omega)]
        have hmn : n * k.c.toNat ≤ 12 * 3 := Nat.mul_le_mul hn (by omega)
        obtain ⟨s, hs1, hs2, hs3, hs4⟩ := step_back_found (hro r hrm) (show 1 ≤ o.np by have := hp1.1; unfold Z.Od.np; omega) hsE
        have hLi : Lq[i]? = some ((n : Int) * k.c, r, gi) := by
          rw [← hLq, List.getElem?_reverse (by rw [List.length_map, List.length_zip, List.length_zip]; omega), List.length_map, List.length_zip, List.length_zip, List.getElem?_map, show min o.ks.length (min ch.length (gridsM o n ch e0).length) - 1 - i = j by omega]
          have hz1 : (ch.zip (gridsM o n ch e0))[j]? = some (r, gi) := List.getElem?_zip_eq_some.mpr ⟨hr, hg1⟩
          have hz2 : (o.ks.zip (ch.zip (gridsM o n ch e0)))[j]? = some (k, (r, gi)) := List.getElem?_zip_eq_some.mpr ⟨hk, hz1⟩
          rw [hz2]
          rfl
        have hdrop : Lq.drop i = ((n : Int) * k.c, r, gi) :: Lq.drop (i + 1) := by
          obtain ⟨hlt, he⟩ := List.getElem?_eq_some_iff.mp hLi
          rw [List.drop_eq_getElem_cons hlt, he]
        have hbk2 : backM o.np Lq e0 = (cs ++ [s.1]) ++ backM o.np (Lq.drop (i + 1)) s.2 := by
          rw [hbk, hdrop, backM, hnc, hs1, List.append_assoc]
          rfl
        walk_at "rd"
        refine knd rfl (O.up e id) fun ck kx Sk dk => ?_
        obtain ⟨kv, hkv⟩ : ∃ kv, kx[j]? = some kv := ⟨_, List.getElem?_eq_getElem (by rw [dk.lenM]; omega)⟩
        obtain ⟨k', hk', hkd⟩ := dk.getM hkv
        rw [hk] at hk'
        cases hk'
        obtain ⟨ka, kxs, rfl, Ska, kat⟩ := Kd.at1 k hkd
        obtain ⟨rv, hrv⟩ : ∃ rv, vxs[j]? = some rv := ⟨_, List.getElem?_eq_getElem (by rw [hvl]; omega)⟩
        obtain ⟨r', hr', hrd⟩ := dv.getM hrv
        rw [hr] at hr'
        cases hr'
        obtain ⟨bj, hbj⟩ : ∃ b, bs[j]? = some b := ⟨_, List.getElem?_eq_getElem (by omega)⟩
        refine ⟨ck, kx, (j : Int), _, rfl, rfl, Sk, atI_nat hkv, ka, kxs, 1, _, rfl, rfl, Ska, kat, k.c, rfl, .inl ⟨by omega, by omega⟩, va, vxs, (j : Int), rv, rfl, rfl, e.seqT Sv, atI_nat hrv, G, _, (j : Int), .ref bj, rfl, rfl, sqL fG', atI_nat (by rw [List.getElem?_map, hbj]; rfl), ?_⟩
        rw [hnc]
        refine ⟨x, o, n * k.c.toNat, rv, r, bj, gi, ev, ept, rfl, O.up e id, by omega, hrd.mono e.any, ⟨(hc.r r hrm).2, fun el hel => ⟨(hro r hrm).b el hel, (hro r hrm).p el hel⟩⟩, sqL (hbs' j bj gi hbj hg1), dev, by rw [hg4]; omega, fun t H5 e5 ht => ?_⟩
        rw [hs1] at ht
        obtain ⟨ta, tx, rfl, St, st⟩ := dtT ht
        cases st with
        | @cons v1 _ _ _ w1 st => cases st with
          | @cons v2 _ _ _ w2 st =>
            cases st
            have fp5 := e5.get fp
            have hcvl := dcs.lenM
            have e6 : Ex H (upd H5 p (.lst (cv ++ [v1]))) := (e.trans e5).put fp5 (.inl hpH)
            have g6 : Gr (· = p) H5 (upd H5 p (.lst (cv ++ [v1]))) := Gr.refl.put fp5 (.inr rfl)
            refine ⟨ta, rfl, _, St, rfl, v1, _, rfl, v2, _, rfl, rfl, .inl ⟨rfl, _, sqL fp5⟩, p, cv, v1, rfl, rfl, fp5, smallt (by omega), ?_⟩
            refine ⟨_, _, _, v2, ⟨rfl, rfl, rfl, rfl⟩, s.2, cv ++ [v1], cs ++ [s.1], ⟨e6, upd_same, ?_, w2.mono g6.any, g6.at (e5.get fG') hGp, fun i b g h1 h2 => g6.at (e5.get (hbs' i b g h1 h2)) (hbp i b g h1 h2)⟩, by omega, hbk2, by rw [List.length_append, hcl]; rfl, fun c hc2 => ?_, gi, by rw [show o.ks.length - (i + 1) = j by omega]; exact hg1, hs2⟩
            · rw [List.map_append]
              exact dts_app (dcs.mono (e5.any.trans g6.any)) (.cons (w1.mono g6.any) .nil)
            · rcases List.mem_append.mp hc2 with h | h
              · exact hcn c h
              · rw [List.mem_singleton.mp h]
                exact hs4
      · rintro σ' H' ⟨y7, y8, y9, ev, ept, cv, cs, rfl, ⟨e, fp, dcs, dev, fG', hbs'⟩, hle, hbk, hcl, hcn, gE, hgE, hsE⟩
        have hfin : backM o.np Lq e0 = cs := by
          rw [hbk, List.drop_of_length_le (by omega), backM, List.append_nil]
        rw [hfin] at q
        walk_at "rd"
        have e5 : Ex H (upd H' p (.lst cv.reverse)) := e.put fp (.inl hpH)
        have g5 : Gr (· = p) H' (upd H' p (.lst cv.reverse)) := Gr.refl.put fp (.inr rfl)
        have f5 := upd_same (H := H') (a := p) (o := .lst cv.reverse)
        refine ⟨.inl ⟨rfl, _, sqL fp⟩, p, cv, rfl, rfl, fp, ?_⟩
        have dcv : DTs K (upd H' p (.lst cv.reverse)) cv.reverse (cs.reverse.map wayD) := by
          rw [List.map_reverse]
          exact dts_rev (dcs.mono g5.any)
        have O5 := O.up e5 id
        generalize upd H' p (.lst cv.reverse) = H5 at e5 f5 dcv O5 ⊢
        refine lcFR (α := List Int) (fun d y H => DT K H y (wayD d)) (fun d y H H' h e => h.mono e) ((List.range o.np).map fun i => cs.reverse.map fun c => c.getD i 0) (fun _ => true) (by rw [List.length_map, List.length_range]; exact walk_range (lo := 0) (n := o.np)) (fun R h => ?_) (fun _ _ => trivial) (by rw [List.length_map, List.length_range]; have := hp1.2; unfold Z.Od.np; omega) ?_ ?_
        · refine ppl rfl O5 fun c px Sp dp => ⟨c, _, rfl, .inr Sp, ?_⟩
          refine ⟨_, rfl, by omega, by rw [dp.lenM]; omega, ?_⟩
          rw [Int.toNat_natCast, dp.lenM]
          exact h
        · rintro i y H6 H7 d hd e6 ⟨rfl, rfl⟩ F hF
          rw [List.getElem?_map, Option.map_eq_some_iff] at hd
          obtain ⟨i2, hi2, rfl⟩ := hd
          have hi3 := (List.getElem?_eq_some_iff.mp hi2).1
          rw [List.length_range] at hi3
          rw [List.getElem?_range hi3] at hi2
          cases hi2
          walk_at "rd"
          rw [Int.zero_add]
          refine hF _ _ rfl .refl (fun B hB => ?_) fun _ H8 Q8 e8 k8 => ?_
          · walk_at "rd"
            exact hB _ .refl
          · walk_at "rd"
            refine ⟨p, _, cs.reverse, i, rfl, sqL ((e6.trans e8).get f5), dcv.mono (e6.trans e8).any, by rw [List.length_reverse]; omega, fun c hc => ?_, fun t H9 e9 ht => k8 t H9 e9 ht⟩
            rw [hcn c (List.mem_reverse.mp hc)]
            exact hi3
        · intro D ys H6 hD e6 f6 l6 r6
          have hft : ∀ l : List (List Int), l.filter (fun _ => true) = l := fun l => List.filter_eq_self.mpr fun _ _ => rfl
          rw [hft] at l6 r6
          refine ⟨D, ys, rfl, .inl ⟨sqL f6, fun T hT => q _ _ ((e5.trans e6).trans (.new hT)) ?_⟩⟩
          refine .tup (sqT upd_same) (DTs.of (l6.trans (List.length_map ..).symm) fun i y hy => ?_)
          have hi := (List.getElem?_eq_some_iff.mp hy).1
          rw [l6] at hi
          exact ⟨_, by rw [List.getElem?_map, List.getElem?_eq_getElem hi]; rfl, (r6 i y _ hy (List.getElem?_eq_getElem hi)).mono (Gr.new (m := nob) hT).any⟩
end
end K11

namespace K11
open PySem PySem.Spec PyProof.Rows L2 Z
local macro_rules | `(tactic| walk_at "rd") => `(tactic| try simp only [cxOf, tSeq, tIfS, tRet, tRetN, tAsg, tDrop, tNext, tBreak, tCont, tNever, tPar, tPar3, tAug, gName, gTup, gCons, gNil, gSub, tVar, tC, tOp, tUn, tCB, tBM, tBM0, tCons, tNil, tTest, tB, tAnd, tOr, tNot, tAndV, tOrV, tNotV, tIf, tChain,
  tTup, tLst, tCall, tMeth, tSl, tPart, tNoPart, tM1, tFmt, tJs_nil, tJs_cons, tCKw, rI0, rI, rU, rEq, rNe, scal_ii, scal_ss, scal_bb, ipI, iStr, iTup, iList, iRng1, sFld, tFld, L2.start, List.getElem?_cons_zero, List.getElem?_cons_succ, List.set_cons_zero, List.set_cons_succ, Option.some.injEq, V.int.injEq, V.bl.injEq, V.str.injEq, V.ref.injEq,
  List.cons.injEq, exists_and_left, exists_eq_left', exists_eq_left, exists_eq_right, exists_eq_right', exists_eq', exists_eq, and_true, true_and, and_self, List.map_cons, List.map_nil, List.length_cons, List.length_nil, List.replicate_succ, List.replicate_zero, List.cons_append, List.nil_append, List.append_nil,
  Nat.add_sub_cancel, Nat.reduceAdd, Nat.reduceSub, if_true, if_false, ite_true, ite_false, Bool.not_true, Bool.not_false, Bool.true_eq_false, Bool.false_eq_true, reduceIte, reduceCtorEq, false_and, exists_false, or_false, false_or, decide_true, decide_false, wipe])

section
variable {P : Program} {w : World} {K : PySem.W.Frag} {mg : Str → Option Value} {base : Heap}
abbrev s_has_bit : Stmt := topS 83
theorem sc_has_bit : FnScope ["bits", "place"] ["bits", "place"] (defScope s_has_bit) := ⟨rfl, rfl, rfl, by decide +kernel, rfl, by decide +kernel, by decide +kernel⟩
def spHasBit : Sp := fun vs H Q _ => ∃ N n : Nat, vs = [.int N, .int n] ∧ Q (.bl (N.testBit n)) H
theorem ok_has_bit (D0 : Df K mg "_has_bit" s_has_bit) : Cal P w K mg base 1 "_has_bit" ["bits", "place"] spHasBit := by
  refine D0.cal sc_has_bit (fun _ _ _ _ _ _ us hl => match us, hl with | [_, _], _ => rfl) (fun vs H Q E h => ?_) (fun f cdv A outer s H vs Q E hr h => ?_)
  · obtain ⟨N, n, rfl, _⟩ := h
    rfl
  · obtain ⟨N, n, rfl, q⟩ := h
    refine ⟨_, (pss_one (ps_ret (pe_cmpR op_eq (pe_op op_and (pe_op op_shr (pv 0) (pv 1)) pe_int) pe_int (nomark _)))), ?_⟩
    walk_at "rd"
    refine ⟨by omega, ?_⟩
    rw [bit_is]
    exact q
theorem shl_ok {N d : Nat} (hN : N < 2 ^ 1001) (hd : d ≤ 2000) : CShl (N : Int) (d : Int) := by
  refine ⟨by omega, ?_⟩
  have hb : Builtin.Int.intBits (N : Int) ≤ 1001 := by
    unfold Builtin.Int.intBits
    split
    · omega
    · rename_i h
      have hne : N ≠ 0 := fun e => h (by rw [e]; rfl)
      have := (Nat.log2_lt hne).mpr hN
      show N.log2 + 1 ≤ 1001
      omega
  have e : (2 : Int) ^ 27 = 134217728 := by decide
  rw [e]
  omega
abbrev s_with_multiples : Stmt := topS 82
theorem sc_with_multiples : FnScope ["sums", "number", "all_bits", "step"] ["sums", "number"] (defScope s_with_multiples) := ⟨rfl, rfl, rfl, by decide +kernel, rfl, by decide +kernel, by decide +kernel⟩
def spMults : Sp := fun vs H Q _ => ∃ N d : Nat, vs = [.int N, .int d] ∧ N < 2 ^ 1001 ∧ 0 < d ∧ ∀ N' k : Nat, N' < 2 ^ 1001 → 1000 < k * d → NM.Bits N' (NM.Mul N d k) → Q (.int N') H
theorem ok_with_multiples (k_MOST_NUMBER : ∃ t, mg "MOST_NUMBER" = some (.int 1000 t)) (D0 : Df K mg "_with_multiples" s_with_multiples) : Cal P w K mg base 1 "_with_multiples" ["sums", "number"] spMults := by
  refine D0.cal sc_with_multiples (fun _ _ _ _ _ _ us hl => match us, hl with | [_, _], _ => rfl) (fun vs H Q E h => ?_) (fun f cdv A outer s H vs Q E hr h => ?_)
  · obtain ⟨N, n, rfl, _⟩ := h
    rfl
  · obtain ⟨N, d, rfl, hN, hd, q⟩ := h
    refine ⟨_, (pss_cons (ps_set (i := 2) sc_with_multiples.nd rfl (.inl rfl) (pe_op op_sub (pe_op op_shlW pe_int (pe_op op_add (pe_gi rfl k_MOST_NUMBER) pe_int)) pe_int))
      (pss_cons (ps_set (i := 3) sc_with_multiples.nd rfl (.inl rfl) (pv 1))
      (pss_cons (ps_while PassesOwn.never (pt_cmpR op_le (pv 3) (pe_gi rfl k_MOST_NUMBER) (nomark _)) (pss_cons (ps_set (i := 0) sc_with_multiples.nd rfl (.inl rfl) (pe_op op_and (pe_op op_or (pv 0) (pe_op op_shlW (pv 0) (pv 3))) (pv 2)))
      (pss_one (ps_set (i := 3) sc_with_multiples.nd rfl (.inl rfl) (pe_op op_add (pv 3) (pv 3))))))
      (pss_one (ps_ret (pv 0)))))), ?_⟩
    walk_at "rd"
    refine ⟨shl_ok (N := 1) (by exact Nat.one_lt_two_pow (by decide)) (d := 1000 + 1) (by omega), ?_⟩
    have hmask : (1 : Int) * 2 ^ (1000 + 1 : Int).toNat - 1 = ((2 ^ 1001 - 1 : Nat) : Int) := by decide +kernel
    rw [hmask]
    generalize hM : ((2 ^ 1001 - 1 : Nat) : Int) = mask
    refine while_by (fun σ' H' => H' = H ∧ ∃ N' k : Nat, σ' = [some (.int N'), some (.int d), some (.int mask), some (.int (k * d : Nat))] ∧ 0 < k ∧ N' < 2 ^ 1001 ∧ NM.Bits N' (NM.Mul N d k))
      (fun (σ' : L2.St) _ => match σ'[3]? with
        | some (some (V.int i)) => (2000 - i).toNat
        | _ => 0) ⟨rfl, N, 1, by rw [Nat.one_mul], by omega, hN, NM.mul_one hN⟩ ?_ ?_
    · rintro σ' H' ⟨rfl, N', k, rfl, hk, hN', hB⟩
      walk_at "rd"
      have hkd : 0 < k * d := Nat.mul_pos hk hd
      by_cases hs : k * d ≤ 1000
      · rw [decide_eq_true (show ((k * d : Nat) : Int) ≤ 1000 by omega)]
        refine iteT ?_
        walk_at "rd"
        refine ⟨shl_ok hN' (by omega), ?_⟩
        rw [shl_nat, bitOr_nat, ← hM, mask_nat]
        refine ⟨⟨_, k + k, ?_, by omega, Nat.mod_lt _ (Nat.two_pow_pos _), NM.mul_two hB⟩, ?_⟩
        · have e : ((k * d : Nat) : Int) + ((k * d : Nat) : Int) = (((k + k) * d : Nat) : Int) := by rw [Nat.add_mul]; omega
          rw [e]
          exact ⟨rfl, rfl⟩
        · show (2000 - (((k * d : Nat) : Int) + ((k * d : Nat) : Int))).toNat < (2000 - ((k * d : Nat) : Int)).toNat
          omega
      · rw [decide_eq_false (show ¬ ((k * d : Nat) : Int) ≤ 1000 by omega)]
        refine iteF ?_
        walk_at "rd"
        exact q N' k hN' (by omega) hB
    · intro σ' H' Q1 Q2 hQ h
      obtain ⟨v, h1, i, j, e1, e2, b, e3, h2⟩ := h
      exact ⟨v, h1, i, j, e1, e2, b, e3, hQ _ _ h2⟩
end
end K11

namespace K11
open PySem PySem.Spec PyProof.Rows L2 Z ZE
local macro_rules | `(tactic| walk_at "rd") => `(tactic| try simp only [cxOf, tSeq, tIfS, tRet, tRetN, tAsg, tDrop, tNext, tBreak, tCont, tNever, tPar, tPar3, tAug, gName, gTup, gCons, gNil, gSub, tVar, tC, tOp, tUn, tCB, tBM, tBM0, tCons, tNil, tTest, tB, tAnd, tOr, tNot, tAndV, tOrV, tNotV, tIf, tChain,
  tTup, tLst, tCall, tMeth, tSl, tPart, tNoPart, tM1, tFmt, tJs_nil, tJs_cons, tCKw, rI0, rI, rU, rEq, rNe, scal_ii, scal_ss, scal_bb, ipI, iStr, iTup, iList, iRng1, sFld, tFld, L2.start, List.getElem?_cons_zero, List.getElem?_cons_succ, List.set_cons_zero, List.set_cons_succ, Option.some.injEq, V.int.injEq, V.bl.injEq, V.str.injEq, V.ref.injEq,
  List.cons.injEq, exists_and_left, exists_eq_left', exists_eq_left, exists_eq_right, exists_eq_right', exists_eq', exists_eq, and_true, true_and, and_self, List.map_cons, List.map_nil, List.length_cons, List.length_nil, List.replicate_succ, List.replicate_zero, List.cons_append, List.nil_append, List.append_nil,
  Nat.add_sub_cancel, Nat.reduceAdd, Nat.reduceSub, if_true, if_false, ite_true, ite_false, Bool.not_true, Bool.not_false, Bool.true_eq_false, Bool.false_eq_true, reduceIte, reduceCtorEq, false_and, exists_false, or_false, false_or, decide_true, decide_false, wipe])

section
variable {P : Program} {w : World} {K : PySem.W.Frag} {mg : Str → Option Value} {base : Heap}
abbrev s_check_generators : Stmt := topS 80
theorem sc_check_generators : FnScope ["generators", "at", "number"] ["generators"] (defScope s_check_generators) := ⟨rfl, rfl, rfl, by decide +kernel, rfl, by decide +kernel, by decide +kernel⟩
def okG (ns : List Int) : Prop := ns.length ≤ 1000 ∧ ∀ n ∈ ns, 1 ≤ n ∧ n ≤ 1000
def spCkG (K : PySem.W.Frag) : Sp := fun vs H Q _ => ∃ a, ∃ ns : List Int, vs = [.ref a] ∧ SqT K H a (ns.map V.int) ∧ okG ns ∧ ∀ H', Ex H H' → Q .non H'
theorem ok_check_generators (B : Bl mg) (k_MOST_NUMBER : ∃ t, mg "MOST_NUMBER" = some (.int 1000 t)) (c_is_integer_within : Cal P w K mg base 2 "is_integer_within" ["value", "least", "most"] (spIsIn K)) (D0 : Df K mg "_check_generators" s_check_generators) :
    Cal P w K mg base 3 "_check_generators" ["generators"] (spCkG K) := by
  refine D0.cal sc_check_generators (fun _ _ _ _ _ _ us hl => match us, hl with | [_], _ => rfl) (fun vs H Q E h => ?_) (fun f cdv A outer s H vs Q E hr h => ?_)
  · obtain ⟨a, ms, rfl, _⟩ := h
    rfl
  · obtain ⟨a, ns, rfl, hS, hn, q⟩ := h
    refine ⟨_, (pss_cons (ps_if (pt_not (pt_val (pe_callB (r := rIsi K) call_isi (by rfl) B.isinstance_ (by decide +kernel) (pa_cons (pv 0) (pa_cons (pe_bltn (by rfl) B.tuple_ (by decide +kernel) (v := .ty "tuple") rfl) pa_nil))))) (pss_one ps_never) pss_nil)
      (pss_one (ps_for PassesOwn.never rfl (pi_enumT rfl B.enumerate_ (pa_cons (pv 0) pa_nil)) (pg_tup rfl (pgs_cons (pg_name (i := 1) sc_check_generators.nd rfl (.inl rfl)) (pgs_cons (pg_name (i := 2) sc_check_generators.nd rfl (.inl rfl)) pgs_nil))) (pss_one (ps_if (pt_not (pt_val (pe_cal c_is_integer_within hr (by decide) rfl (pa_cons (pv 2) (pa_cons pe_int (pa_cons (pe_gi rfl k_MOST_NUMBER) pa_nil)))))) (pss_one ps_never) pss_nil))))), ?_⟩
    walk_at "rd"
    refine isi_tup (tyd_sqT hS) ?_
    walk_at "rd"
    refine forE (fun R h => ⟨_, rfl, h⟩) hS (fun i σ' H' => ∃ y z, σ' = [some (.ref a), y, z] ∧ Ex H H') ⟨_, _, rfl, .refl⟩ (fun i σ' H' p => by
      obtain ⟨_, _, _, e⟩ := p
      exact e.seqT hS) ?_ ?_
    · rintro i x T σ' H' hx ⟨y, z, rfl, e⟩ hT
      obtain ⟨n, hn1, rfl⟩ := map_get hx
      obtain ⟨n1, n2⟩ := hn.2 n (List.mem_of_getElem? hn1)
      walk_at "rd"
      refine ⟨_, sqT upd_same, rfl, _, _, rfl, _, _, rfl, rfl, ?_⟩
      walk_at "rd"
      refine ⟨_, .int n, _, _, rfl, .int n, ?_⟩
      rw [show D.isIn (.int n) 1 1000 = true by simp [D.isIn, n1, n2]]
      walk_at "rd"
      exact ⟨_, _, ⟨rfl, rfl⟩, e.trans (.new hT)⟩
    · rintro σ' H' ⟨y, z, rfl, e⟩
      exact q H' e
theorem asc_len {g ns : List Int} (h : g.Pairwise (· < ·)) (hs : ∀ x ∈ g, x ∈ ns) : g.length ≤ ns.length :=
  List.Nodup.length_le_of_subset (h.imp fun h => Int.ne_of_lt h) fun x hx => hs x hx
abbrev s_least_generators : Stmt := topS 81
theorem sc_least_generators : FnScope ["numbers", "sums", "found", "number"] ["numbers"] (defScope s_least_generators) := ⟨rfl, rfl, rfl, by decide +kernel, rfl, by decide +kernel, by decide +kernel⟩
structure LgI (H : Hp) (a F : Addr) (ns : List Int) (p : Addr) (xs : List V) (i : Nat) (σ' : L2.St) (H' : Hp) : Prop where
  ex : ∃ ms g : List Int, ∃ N : Nat, ∃ y, xs = ms.map V.int ∧ ms.Pairwise (· < ·) ∧ (∀ k, k ∈ ms ↔ k ∈ ns) ∧ p ≠ F ∧ H' p = some (.lst xs) ∧ σ' = [some (.ref a), some (.int N), some (.ref F), y] ∧ Ex H H' ∧ H' F = some (.lst (g.map V.int)) ∧ NM.Found ms i g ∧ N < 2 ^ 1001 ∧ NM.Bits N (NM.Sg g)
def spLeast (K : PySem.W.Frag) : Sp := fun vs H Q _ => ∃ a, ∃ ns : List Int, vs = [.ref a] ∧ (SqT K H a (ns.map V.int) ∨ SqL K H a (ns.map V.int)) ∧ okG ns ∧ ∀ p g H', Ex H H' → SqT K H' p (g.map V.int) → NM.Least g → (∀ x ∈ g, x ∈ ns) → (∀ s, NM.Sg g s ↔ NM.Sg ns s) → Q (.ref p) H'
theorem ok_least_generators (B : Bl mg) (c_has_bit : Cal P w K mg base 1 "_has_bit" ["bits", "place"] spHasBit) (c_with_multiples : Cal P w K mg base 1 "_with_multiples" ["sums", "number"] spMults) (D0 : Df K mg "_least_generators" s_least_generators) :
    Cal P w K mg base 2 "_least_generators" ["numbers"] (spLeast K) := by
  refine D0.cal sc_least_generators (fun _ _ _ _ _ _ us hl => match us, hl with | [_], _ => rfl) (fun vs H Q E h => ?_) (fun f cdv A outer s H vs Q E hr h => ?_)
  · obtain ⟨a, ms, rfl, _⟩ := h
    rfl
  · obtain ⟨a, ns, rfl, hS, hn, q⟩ := h
    refine ⟨_, (pss_cons (ps_set (i := 1) sc_least_generators.nd rfl (.inl rfl) pe_int)
      (pss_cons (ps_set (i := 2) sc_least_generators.nd rfl (.inl rfl) (pe_lst pa_nil))
      (pss_cons (ps_for PassesOwn.never rfl (pi_list (pe_callB (r := rSortBig w) (cr_sortBig rfl) (by rfl) B.sorted_ (by decide +kernel) (pa_cons (pe_callTy (r := rSetA K w) (cr_setA rfl) (by rfl) B.set_ (by decide +kernel) (pa_cons (pv 0) pa_nil)) pa_nil))) (pg_name (i := 3) sc_least_generators.nd rfl (.inl rfl)) (pss_one (ps_if (pt_not (pt_val (pe_cal c_has_bit hr (by decide) rfl (pa_cons (pv 1) (pa_cons (pv 3) pa_nil))))) (pss_cons (ps_expr (pe_bm PySem.F.plainAttrs_list PySem.F.slot_list_append PySem.F.type_list_append mt_append (pv 2) (pa_cons (pv 3) pa_nil)))
      (pss_one (ps_set (i := 1) sc_least_generators.nd rfl (.inl rfl) (pe_cal c_with_multiples hr (by decide) rfl (pa_cons (pv 1) (pa_cons (pv 3) pa_nil)))))) pss_nil)))
      (pss_one (ps_ret (pe_callTy (r := rTupOf K) call_tuple_of (by rfl) B.tuple_ (by decide +kernel) (pa_cons (pv 2) pa_nil))))))), ?_⟩
    walk_at "rd"
    refine ⟨by decide, fun F hF => ?_⟩
    have e0 : Ex H (upd H F (.lst [])) := .new hF
    refine forLn (fun p xs H1 => ∃ ms : List Int, xs = ms.map V.int ∧ ms.Pairwise (· < ·) ∧ (∀ k, k ∈ ms ↔ k ∈ ns) ∧ Ex (upd H F (.lst [])) H1 ∧ (upd H F (.lst [])) p = none ∧ H1 p = some (.lst xs)) ?_ (fun p xs H1 ⟨ms, _, _, _, _, _, h⟩ => sqL h)
      (LgI H a F ns)
      ?_ (fun p xs i σ' H' ⟨_, _, _, _, _, _, _, _, h, _⟩ => sqL h) ?_ ?_
    · intro R hR
      walk_at "rd"
      have cont : ∀ S c, (upd H F (.lst [])) S = none → c ≤ ns.length → rSortBig w [.ref S] (upd (upd H F (.lst [])) S (SetO w S (fun j => decide (j ∈ ns)) c)) R := fun S c hSn hc => ?_
      · rcases hS with hS | hS
        · exact .inl ⟨a, ns, rfl, e0.seqT hS, hn.1, cont⟩
        · exact .inr ⟨a, ns, rfl, e0.seqL hS id, hn.1, cont⟩
      refine ⟨S, _, c, rfl, upd_same, Nat.le_trans hc hn.1, fun ms p h1 h2 h3 h4 => ?_⟩
      have hp : (upd H F (.lst [])) p = none := (Gr.free (m := nob) (.new hSn) h4)
      exact hR p _ _ ⟨ms, rfl, h1, fun k => by rw [h2 k]; exact decide_eq_true_iff, (Gr.new hSn).trans (.new h4), hp, upd_same⟩
    · rintro p xs H1 ⟨ms, rfl, h1, h2, h3, h4, h5⟩
      refine ⟨ms, [], 1, _, rfl, h1, h2, fun e => ?_, h5, rfl, e0.trans h3, h3.get upd_same, NM.Found.start ms, Nat.one_lt_two_pow (by decide), NM.bits_one⟩
      rw [e, upd_same] at h4
      cases h4
    · rintro p xs i x σ' H' hx ⟨ms, g, N, y, rfl, h1, h2, h3, h4, rfl, h5, h6, h7, h8, h9⟩
      obtain ⟨n, hn1, rfl⟩ := map_get hx
      obtain ⟨n1, n2⟩ := hn.2 n ((h2 n).mp (List.mem_of_getElem? hn1))
      obtain ⟨d, rfl⟩ := Int.eq_ofNat_of_zero_le (show 0 ≤ n by omega)
      walk_at "rd"
      refine ⟨N, d, rfl, ?_⟩
      cases hb : N.testBit d
      · have hns : ¬ NM.Sg g d := fun q => by
          rw [(h9 d (by omega)).mpr q] at hb
          cases hb
        walk_at "rd"
        have hgl : g.length ≤ 1000 := Nat.le_trans (Nat.le_of_lt_succ (Nat.lt_succ_of_le (asc_len h7.least.asc fun x hx => (h2 x).mp (List.mem_of_mem_take (h7.sub x hx))))) hn.1
        refine ⟨.inl ⟨rfl, _, sqL h6⟩, F, _, _, rfl, rfl, h6, smallt (by rw [List.length_map]; omega), ?_⟩
        walk_at "rd"
        refine ⟨N, d, rfl, h8, by omega, fun N' k hN' hk hB => ?_⟩
        refine ⟨ms, g ++ [(d : Int)], N', _, rfl, h1, h2, h3, ?_, rfl, h5.put h6 (.inl hF), ?_, h7.out h1 (by omega) hn1 hns, hN', ?_⟩
        · rw [upd_ne h3]
          exact h4
        · rw [upd_same, List.map_append]
          rfl
        · intro n hn2
          rw [hB n hn2]
          exact NM.mul_all h9 h7.least.pos hk n hn2
      · have hns := (h9 d (by omega)).mp hb
        walk_at "rd"
        exact ⟨ms, g, N, _, rfl, h1, h2, h3, h4, rfl, h5, h6, h7.in_ hn1 hns, h8, h9⟩
    · rintro p xs σ' H' ⟨ms, g, N, y, rfl, h1, h2, h3, h4, rfl, h5, h6, h7, h8, h9⟩
      rw [List.length_map] at h7
      obtain ⟨g1, g2, g3⟩ := h7.done
      walk_at "rd"
      refine ⟨F, _, rfl, .inl ⟨sqL h6, fun T hT => ?_⟩⟩
      exact q T g _ (h5.trans (.new hT)) (sqT upd_same) g1 (fun x hx => (h2 x).mp (g2 x hx)) fun s => (g3 s).trans (NM.same_of_mem h2 s)
abbrev s_greatest_divisor : Stmt := topS 84
theorem sc_greatest_divisor : FnScope ["numbers", "divisor", "number"] ["numbers"] (defScope s_greatest_divisor) := ⟨rfl, rfl, rfl, by decide +kernel, rfl, by decide +kernel, by decide +kernel⟩
def gcdL (ns : List Int) : Int := ns.foldl (fun d n => (Int.gcd d n : Int)) 0
def spGd (K : PySem.W.Frag) : Sp := fun vs H Q _ => ∃ a, ∃ ns : List Int, vs = [.ref a] ∧ SqT K H a (ns.map V.int) ∧ Q (.int (gcdL ns)) H
theorem ok_greatest_divisor (g_gcd : mg "gcd" = some (.builtin "math.gcd")) (D0 : Df K mg "_greatest_divisor" s_greatest_divisor) : Cal P w K mg base 1 "_greatest_divisor" ["numbers"] (spGd K) := by
  refine D0.cal sc_greatest_divisor (fun _ _ _ _ _ _ us hl => match us, hl with | [_], _ => rfl) (fun vs H Q E h => ?_) (fun f cdv A outer s H vs Q E hr h => ?_)
  · obtain ⟨a, ms, rfl, _⟩ := h
    rfl
  · obtain ⟨a, ns, rfl, hS, q⟩ := h
    refine ⟨_, (pss_cons (ps_set (i := 1) sc_greatest_divisor.nd rfl (.inl rfl) pe_int)
      (pss_cons (ps_for PassesOwn.never rfl (pi_tup (pv 0)) (pg_name (i := 2) sc_greatest_divisor.nd rfl (.inl rfl)) (pss_one (ps_set (i := 1) sc_greatest_divisor.nd rfl (.inl rfl) (pe_callBfun cr_gcd (by rfl) g_gcd (pa_cons (pv 1) (pa_cons (pv 2) pa_nil))))))
      (pss_one (ps_ret (pv 1))))), ?_⟩
    walk_at "rd"
    refine forTp (a := a) (fun R h => ⟨_, rfl, h⟩) hS (fun i σ' H' => ∃ y, σ' = [some (.ref a), some (.int (gcdL (ns.take i))), y] ∧ H' = H) ⟨_, rfl, rfl⟩ (fun i σ' H' p => by
      obtain ⟨_, _, rfl⟩ := p
      exact hS) ?_ ?_
    · rintro i x σ' H' hx ⟨y, rfl, rfl⟩
      obtain ⟨n, hn1, rfl⟩ := map_get hx
      walk_at "rd"
      refine ⟨_, _, rfl, _, ⟨?_, rfl⟩, rfl⟩
      show V.int _ = V.int (gcdL (ns.take (i + 1)))
      unfold gcdL
      rw [NM.take_snoc hn1, List.foldl_append]
      rfl
    · rintro σ' H' ⟨y, rfl, rfl⟩
      rw [List.length_map, List.take_length]
      walk_at "rd"
      exact q
end
end K11

namespace K11
open PySem PySem.Spec PyProof.Rows L2 Z ZE
local macro_rules | `(tactic| walk_at "rd") => `(tactic| try simp only [cxOf, tSeq, tIfS, tRet, tRetN, tAsg, tDrop, tNext, tBreak, tCont, tNever, tPar, tPar3, tAug, gName, gTup, gCons, gNil, gSub, tVar, tC, tOp, tUn, tCB, tBM, tBM0, tCons, tNil, tTest, tB, tAnd, tOr, tNot, tAndV, tOrV, tNotV, tIf, tChain,
  tTup, tLst, tCall, tMeth, tSl, tPart, tNoPart, tM1, tFmt, tJs_nil, tJs_cons, tCKw, rI0, rI, rU, rEq, rNe, scal_ii, scal_ss, scal_bb, ipI, iStr, iTup, iList, iRng1, sFld, tFld, L2.start, List.getElem?_cons_zero, List.getElem?_cons_succ, List.set_cons_zero, List.set_cons_succ, Option.some.injEq, V.int.injEq, V.bl.injEq, V.str.injEq, V.ref.injEq,
  List.cons.injEq, exists_and_left, exists_eq_left', exists_eq_left, exists_eq_right, exists_eq_right', exists_eq', exists_eq, and_true, true_and, and_self, List.map_cons, List.map_nil, List.length_cons, List.length_nil, List.replicate_succ, List.replicate_zero, List.cons_append, List.nil_append, List.append_nil,
  Nat.add_sub_cancel, Nat.reduceAdd, Nat.reduceSub, if_true, if_false, ite_true, ite_false, Bool.not_true, Bool.not_false, Bool.true_eq_false, Bool.false_eq_true, reduceIte, reduceCtorEq, false_and, exists_false, or_false, false_or, decide_true, decide_false, wipe])

section
variable {P : Program} {w : World} {K : PySem.W.Frag} {mg : Str → Option Value} {base : Heap}
theorem ixn_nat {n k : Nat} (h : k < n) : ixN n (k : Int) = some k := by
  unfold ixN
  simp
  omega
abbrev s_leasts : Stmt := topS 86
theorem sc_leasts : FnScope ["generators", "modulus", "leasts", "step", "apart", "first", "number", "_", "known", "place", "least"] ["generators", "modulus"] (defScope s_leasts) := ⟨rfl, rfl, rfl, by decide +kernel, rfl, by decide +kernel, by decide +kernel⟩
/-- the outer loop -/
structure LsA (H : Hp) (a D : Addr) (gs : List Int) (m : Nat) (i : Nat) (σ' : L2.St) (H' : Hp) : Prop where
  ex : ∃ (L : NM.Tab) (y3 y4 y5 y6 y7 y8 y9 y10 : Option V), σ' = [some (.ref a), some (.int (m : Nat)), some (.ref D), y3, y4, y5, y6, y7, y8, y9, y10] ∧ Ex H H' ∧ H' D = some (.lst (L.map cellV)) ∧ NM.TabS (gs.take i) m L
/-- class by class -/
structure LsB (H : Hp) (a D : Addr) (g : List Int) (m s d : Nat) (L0 : NM.Tab) (f : Nat) (σ' : L2.St) (H' : Hp) : Prop where
  ex : ∃ (L : NM.Tab) (y5 y6 y7 y8 y9 y10 : Option V), σ' = [some (.ref a), some (.int (m : Nat)), some (.ref D), some (.int (s : Nat)), some (.int (d : Nat)), y5, y6, y7, y8, y9, y10] ∧ Ex H H' ∧ H' D = some (.lst (L.map cellV)) ∧ NM.Cls g m s d L0 f L
/-- once round -/
structure LsC (H : Hp) (a D : Addr) (S : Int → Prop) (m s d : Nat) (n0 : Int) (f : Int) (L0 : NM.Tab) (t : Nat) (σ' : L2.St) (H' : Hp) : Prop where
  ex : ∃ (L : NM.Tab) (u : Int) (y7 y8 y9 y10 : Option V), σ' = [some (.ref a), some (.int (m : Nat)), some (.ref D), some (.int (s : Nat)), some (.int (d : Nat)), some (.int f), some (.int u), y7, y8, y9, y10] ∧ Ex H H' ∧ H' D = some (.lst (L.map cellV)) ∧ NM.Inn S m s d n0 L0 t L u
def spLeasts (K : PySem.W.Frag) : Sp := fun vs H Q _ => ∃ a, ∃ gs : List Int, ∃ m : Nat, vs = [.ref a, .int (m : Nat)] ∧ SqT K H a (gs.map V.int) ∧ (∀ n ∈ gs, 1 ≤ n ∧ n ≤ 1000) ∧ 0 < m ∧ m ≤ 1000 ∧ ∀ p L H', Ex H H' → SqT K H' p (L.map cellV) → NM.TabS gs m L → Q (.ref p) H'
theorem ok_leasts (B : Bl mg) (g_gcd : mg "gcd" = some (.builtin "math.gcd")) (D0 : Df K mg "_leasts" s_leasts) : Cal P w K mg base 1 "_leasts" ["generators", "modulus"] (spLeasts K) := by
  refine D0.cal sc_leasts (fun _ _ _ _ _ _ us hl => match us, hl with | [_, _], _ => rfl) (fun vs H Q E h => ?_) (fun f cdv A outer s H vs Q E hr h => ?_)
  · obtain ⟨a, gs, m, rfl, _⟩ := h
    rfl
  · obtain ⟨a, gs, m, rfl, hS, hg, hm, hm2, q⟩ := h
    refine ⟨_, (pss_cons (ps_setLc (i := 2) (own := [("place", 9)]) (g := gName 9) rfl sc_leasts.nd rfl rfl (sw_true rfl rfl rfl (by decide +kernel)) (pi_range1 rfl B.range_ (pa_cons (pv 1) pa_nil)) (blkOk_by (N := ["generators", "modulus", "leasts", "step", "apart", "first", "number", "_", "known", "place", "least"]) (sc := defScope s_leasts) (by decide +kernel)) (fun _ _ _ _ _ => (pg_name (i := 9) sc_leasts.nd rfl (.inl rfl))) (fun _ _ _ _ _ => pts_nil) (fun _ _ _ _ _ => pe_non))
      (pss_cons (ps_asg pe_int (pg_sub (pv 2) pe_int set_list))
      (pss_cons (ps_for PassesOwn.never rfl (pi_tup (pv 0)) (pg_name (i := 3) sc_leasts.nd rfl (.inl rfl)) (pss_cons (ps_set (i := 4) sc_leasts.nd rfl (.inl rfl) (pe_callBfun cr_gcd (by rfl) g_gcd (pa_cons (pv 3) (pa_cons (pv 1) pa_nil))))
      (pss_one (ps_for PassesOwn.never rfl (pi_range1 rfl B.range_ (pa_cons (pv 4) pa_nil)) (pg_name (i := 5) sc_leasts.nd rfl (.inl rfl)) (pss_cons (ps_set (i := 6) sc_leasts.nd rfl (.inl rfl) (pe_callBK (cr_minD rfl) (by rfl) B.min_ (by decide +kernel) (pa_cons (pe_lc (own := [("least", 10)]) (g := gName 10) rfl sc_leasts.nd (pi_list (pe_stepL (pv 2) (po_some (pv 5)) (po_some (pv 4)))) (blkOk_by (N := ["generators", "modulus", "leasts", "step", "apart", "first", "number", "_", "known", "place", "least"]) (sc := defScope s_leasts) (by decide +kernel)) (fun _ _ _ _ _ => (pg_name (i := 10) sc_leasts.nd rfl (.inl rfl))) (fun _ _ _ _ _ => pts_one (pt_cmpR op_notN (pv 10) pe_non (nomark _))) (fun _ _ _ _ _ => (pv 10))) pa_nil) (pk_cons pe_non pk_nil)))
      (pss_one (ps_if (pt_cmpR op_notN (pv 6) pe_non (nomark _)) (pss_one (ps_for PassesOwn.never rfl (pi_range1 rfl B.range_ (pa_cons (pe_op op_fdiv (pv 1) (pv 4)) pa_nil)) (pg_name (i := 7) sc_leasts.nd rfl (.inl rfl)) (pss_cons (ps_set (i := 6) sc_leasts.nd rfl (.inl rfl) (pe_op op_add (pv 6) (pv 3)))
      (pss_cons (ps_set (i := 8) sc_leasts.nd rfl (.inl rfl) (pe_ix (r := rIxL K) ix_list (pv 2) (pe_op op_mod (pv 6) (pv 1)) (fun _ _ => rfl)))
      (pss_cons (ps_if (PW.pt (pw_and (pt_cmpR op_notN (pv 8) pe_non (nomark _)) (pw_and1 (pt_cmpR op_lt (pv 8) (pv 6) (nomark _))))) (pss_one (ps_set (i := 6) sc_leasts.nd rfl (.inl rfl) (pv 8))) pss_nil)
      (pss_one (ps_asg (pv 6) (pg_sub (pv 2) (pe_op op_mod (pv 6) (pv 1)) set_list)))))))) pss_nil)))))))
      (pss_one (ps_ret (pe_callTy (r := rTupOf K) call_tuple_of (by rfl) B.tuple_ (by decide +kernel) (pa_cons (pv 2) pa_nil))))))), ?_⟩
    walk_at "rd"
    refine lcRf m (fun R h => ⟨_, rfl, h⟩) (by omega) (List.replicate m V.non) (by simp) ?_ ?_
    · intro i z H' Q' hz e q'
      rw [List.getElem?_replicate] at hz
      split at hz
      · cases hz
        walk_at "rd"
        exact q' H' .refl
      · cases hz
    · intro D H1 hD e1 h1
      walk_at "rd"
      refine ⟨D, _, 0, 0, rfl, rfl, h1, ixn_nat (k := 0) (by simp; omega), ?_⟩
      have E0 : Ex H (upd H1 D (.lst ((List.replicate m V.non).set 0 (V.int 0)))) := e1.put h1 (.inl hD)
      have hS0 := E0.seqT hS
      refine forTp (a := a) (fun R h => ⟨_, rfl, h⟩) hS0 (LsA H a D gs m) ?_ (fun i σ' H' p => ?_) ?_ ?_
      · refine ⟨(List.replicate m none).set 0 (some 0), _, _, _, _, _, _, _, _, rfl, E0, ?_, NM.tab_start hm⟩
        rw [upd_same, List.map_set, List.map_replicate]
        rfl
      · obtain ⟨_, _, _, _, _, _, _, _, _, _, e, _, _⟩ := p
        exact e.seqT hS
      · rintro i x σ' H' hx ⟨L, y3, y4, y5, y6, y7, y8, y9, y10, rfl, e2, hL, hT⟩
        obtain ⟨n, hn1, rfl⟩ := map_get hx
        obtain ⟨n1, n2⟩ := hg n (List.mem_of_getElem? hn1)
        obtain ⟨s, rfl⟩ := Int.eq_ofNat_of_zero_le (show 0 ≤ n by omega)
        walk_at "rd"
        refine ⟨_, _, rfl, ?_⟩
        have hgd : ((s : Int).natAbs.gcd (m : Int).natAbs) = Nat.gcd s m := rfl
        rw [hgd]
        generalize hd : Nat.gcd s m = d
        obtain ⟨c, hcd⟩ : ∃ c, c = m / d := ⟨_, rfl⟩
        have R : NM.Rnd m s d c := ⟨hm, by omega, hd.symm, hcd⟩
        have hcm : c ≤ m := by rw [hcd]; exact Nat.div_le_self m d
        have hd0 := R.d0
        have hdm : d ≤ m := Nat.le_of_dvd hm R.dm
        refine forR (n := (d : Nat)) (fun R h => ⟨_, rfl, h⟩) ⟨by omega, by omega⟩ (LsB H a D (gs.take i) m s d L) ?_ ?_ ?_
        · exact ⟨L, _, _, _, _, _, _, rfl, e2, hL, NM.Cls.start hT⟩
        · rintro f σ' H' hf ⟨L1, y5, y6, y7, y8, y9, y10, rfl, e3, hL1, hC⟩
          have hlen := hC.len
          walk_at "rd"
          refine lc_at (fun p xs H2 => xs = stepV (L1.map cellV) f d ∧ Ex H' H2 ∧ H2 p = some (.lst xs)) ?_ ?_
          · intro R' hR'
            refine ⟨_, rfl, _, rfl, _, rfl, _, rfl, _, rfl, ?_⟩
            refine ⟨D, _, f, d, rfl, rfl, rfl, sqL hL1, by rw [List.length_map]; omega, hd0, fun p hp => ?_⟩
            exact hR' p _ _ ⟨rfl, .new hp, upd_same⟩
          · rintro p xs H2 ⟨rfl, e4, h2⟩
            have hsl := stepV_len (L1.map cellV) f d hd0
            rw [List.length_map] at hsl
            refine lcFilt (a := p) (fun R h => h) (sqL h2) (by omega) (by simp) (fun v => !decide (v = V.non)) ?_ ?_
            · intro x H3 F hx e5 hF
              walk_at "rd"
              exact hF H3 .refl
            · intro D2 H3 hD2 e5 h3
              rw [stepV_map, filt_cells] at h3
              walk_at "rd"
              refine ⟨D2, _, _, rfl, rfl, sqL h3, fun hnil => ?_, fun n0 hn0 hmin => ?_⟩
              · walk_at "rd"
                refine ⟨L1, _, _, _, _, _, _, rfl, (e3.trans e4).trans e5, (e4.trans e5).get hL1, hC.skip fun j v hj hjf hv => ?_⟩
                have hmem : some v ∈ stepV L1 f d := (stepV_mem (by omega)).mpr ⟨j, hjf, hv⟩
                have : v ∈ (stepV L1 f d).filterMap id := List.mem_filterMap.mpr ⟨some v, hmem, rfl⟩
                rw [hnil] at this
                simp at this
              · obtain ⟨c, hc1, hc2⟩ := List.mem_filterMap.mp hn0
                have hc3 : c = some n0 := hc2
                subst hc3
                obtain ⟨pp, hpp1, hpp2⟩ := (stepV_mem (show f < d by omega)).mp hc1
                have hppm : pp < m := by
                  have := (List.getElem?_eq_some_iff.mp hpp2).1
                  omega
                have I0 := hC.inn R hppm hpp1 hpp2 fun j v hj hjf hv => hmin v (List.mem_filterMap.mpr ⟨some v, (stepV_mem (show f < d by omega)).mpr ⟨j, hjf, hv⟩, rfl⟩)
                have hcl : NM.pl m n0 % d = f := by
                  rw [(hC.sound pp n0 hpp2).2]
                  exact hpp1
                walk_at "rd"
                have e345 := (e3.trans e4).trans e5
                refine forR (n := (c : Int)) (fun R' h => ⟨_, rfl, _, rfl, _, _, rfl, rfl, ⟨by omega, by omega⟩, by
                  show R' [V.int ((m : Int) / (d : Int))] H3
                  rw [← Int.natCast_ediv, ← hcd]
                  exact h⟩) ⟨by omega, by omega⟩ (LsC H a D (NM.Sg (gs.take i ++ [(s : Int)])) m s d n0 f L1) ?_ ?_ ?_
                · exact ⟨L1, n0, _, _, _, _, rfl, e345, (e4.trans e5).get hL1, I0⟩
                · rintro t σ' H' ht ⟨L2, u, y7, y8, y9, y10, rfl, e6, hL2, I⟩
                  have htc : t < c := by omega
                  have I1 := I.turn R htc fun x hx => hx.plus (.mem (by simp))
                  have epl : (u + (s : Int)) % (m : Int) = ((NM.pl m (u + s) : Nat) : Int) := by
                    have := Int.emod_nonneg (u + (s : Int)) (show (m : Int) ≠ 0 by omega)
                    unfold NM.pl
                    omega
                  have hpl := NM.pl_lt hm (u + (s : Int))
                  obtain ⟨cc, hc⟩ : ∃ cc, L2[NM.pl m (u + s)]? = some cc := ⟨_, List.getElem?_eq_getElem (by rw [I.len]; exact hpl)⟩
                  have fin : ∀ (y8 y9 y10 : Option V), LsC H a D (NM.Sg (gs.take i ++ [(s : Int)])) m s d n0 f L1 (t + 1) [some (.ref a), some (.int (m : Nat)), some (.ref D), some (.int (s : Nat)), some (.int (d : Nat)), some (.int f), some (.int (NM.turnV m s L2 u)), some (.int (t : Nat)), y8, y9, y10]
                      (upd H' D (.lst ((L2.map cellV).set (NM.pl m (u + s)) (.int (NM.turnV m s L2 u))))) := fun y8 y9 y10 =>
                    ⟨NM.turnL m s L2 u, _, _, _, _, _, rfl, e6.put hL2 (.inl hD), by rw [upd_same]; unfold NM.turnL; rw [List.map_set]; rfl, I1⟩
                  have epv : (NM.turnV m s L2 u) % (m : Int) = ((NM.pl m (u + s) : Nat) : Int) := by
                    rw [← I.turn_pl]
                    have := Int.emod_nonneg (NM.turnV m s L2 u) (show (m : Int) ≠ 0 by omega)
                    unfold NM.pl
                    omega
                  have hlz : NM.pl m (u + s) < (L2.map cellV).length := by rw [List.length_map, I.len]; exact hpl
                  walk_at "rd"
                  refine ⟨by omega, D, _, _, cellV cc, rfl, rfl, sqL hL2, by rw [epl]; exact atI_nat (by rw [List.getElem?_map, hc]; rfl), ?_⟩
                  cases cc with
                  | none =>
                    have hv : NM.turnV m s L2 u = u + s := by unfold NM.turnV; rw [hc]
                    rw [hv] at fin
                    refine iteF ⟨by omega, D, _, _, _, rfl, rfl, hL2, by rw [epl]; exact ixn_nat hlz, ?_⟩
                    exact fin _ _ _
                  | some k =>
                    refine iteT ⟨k, rfl, ?_⟩
                    by_cases hk : k < u + s
                    · have hv : NM.turnV m s L2 u = k := by unfold NM.turnV; rw [hc]; exact if_pos hk
                      rw [hv] at fin epv
                      rw [decide_eq_true hk]
                      refine iteT ⟨k, rfl, by omega, D, _, _, _, rfl, rfl, hL2, by rw [epv]; exact ixn_nat hlz, ?_⟩
                      exact fin _ _ _
                    · have hv : NM.turnV m s L2 u = u + s := by unfold NM.turnV; rw [hc]; exact if_neg hk
                      rw [hv] at fin
                      rw [decide_eq_false hk]
                      refine iteF ⟨by omega, D, _, _, _, rfl, rfl, hL2, by rw [epl]; exact ixn_nat hlz, ?_⟩
                      exact fin _ _ _
                · rintro σ' H' ⟨L2, u, y7, y8, y9, y10, rfl, e6, hL2, I⟩
                  rw [Int.toNat_natCast] at I
                  exact ⟨L2, _, _, _, _, _, _, rfl, e6, hL2, hC.next R hcl I⟩
        · rintro σ' H' ⟨L1, y5, y6, y7, y8, y9, y10, rfl, e3, hL1, hC⟩
          rw [Int.toNat_natCast] at hC
          refine ⟨L1, _, _, _, _, _, _, _, _, rfl, e3, hL1, ?_⟩
          rw [NM.take_snoc hn1]
          exact hC.done R hT
      · rintro σ' H' ⟨L, y3, y4, y5, y6, y7, y8, y9, y10, rfl, e2, hL, hT⟩
        rw [List.length_map, List.take_length] at hT
        walk_at "rd"
        refine ⟨D, _, rfl, .inl ⟨sqL hL, fun T hT2 => ?_⟩⟩
        exact q T L _ (e2.trans (.new hT2)) (sqT upd_same) hT
abbrev s_leasts_by_first : Stmt := topS 85
theorem sc_leasts_by_first : FnScope ["generators"] ["generators"] (defScope s_leasts_by_first) := ⟨rfl, rfl, rfl, by decide +kernel, rfl, by decide +kernel, by decide +kernel⟩
structure FirstOk (gs : List Int) (L : NM.Tab) : Prop where
  nil : gs = [] → L = []
  cons : ∀ m r, gs = m :: r → NM.TabS gs m.toNat L
def spFirst (K : PySem.W.Frag) : Sp := fun vs H Q _ => ∃ a, ∃ gs : List Int, vs = [.ref a] ∧ SqT K H a (gs.map V.int) ∧ (∀ n ∈ gs, 1 ≤ n ∧ n ≤ 1000) ∧ ∀ p L H', Ex H H' → SqT K H' p (L.map cellV) → FirstOk gs L → Q (.ref p) H'
theorem ok_leasts_by_first (c_leasts : Cal P w K mg base 1 "_leasts" ["generators", "modulus"] (spLeasts K)) (D0 : Df K mg "_leasts_by_first" s_leasts_by_first) : Cal P w K mg base 2 "_leasts_by_first" ["generators"] (spFirst K) := by
  refine D0.cal sc_leasts_by_first (fun _ _ _ _ _ _ us hl => match us, hl with | [_], _ => rfl) (fun vs H Q E h => ?_) (fun f cdv A outer s H vs Q E hr h => ?_)
  · obtain ⟨a, gs, rfl, _⟩ := h
    rfl
  · obtain ⟨a, gs, rfl, hS, hg, q⟩ := h
    refine ⟨_, (pss_cons (ps_if (pt_not (pt_truth (pv 0) (by intro _; rfl))) (pss_one (ps_ret (pe_tup pa_nil))) pss_nil)
      (pss_one (ps_ret (pe_cal c_leasts hr (by decide) rfl (pa_cons (pv 0) (pa_cons (pe_ix (r := rIxT K) ix_tup (pv 0) pe_int (fun _ _ => rfl)) pa_nil)))))), ?_⟩
    walk_at "rd"
    cases gs with
    | nil =>
      refine ⟨false, .inr (.inl ⟨_, hS, rfl⟩), ?_⟩
      refine iteT ⟨by decide, fun p hp => q p [] _ (.new hp) (sqT upd_same) ⟨fun _ => rfl, fun m r e => by cases e⟩⟩
    | cons m gs =>
      obtain ⟨n1, n2⟩ := hg m (List.mem_cons_self ..)
      obtain ⟨d, rfl⟩ := Int.eq_ofNat_of_zero_le (show 0 ≤ m by omega)
      refine ⟨true, .inr (.inl ⟨_, hS, rfl⟩), ?_⟩
      refine iteF ⟨a, _, 0, _, rfl, rfl, hS, atI_nat (j := 0) rfl, ?_⟩
      refine ⟨a, _, d, rfl, hS, hg, by omega, by omega, fun p L H' e h1 h2 => q p L H' e h1 ⟨(fun e => by cases e), fun m r e => by
        cases e
        exact h2⟩⟩
abbrev s_holds : Stmt := topS 87
theorem sc_holds : FnScope ["leasts", "number", "least"] ["leasts", "number"] (defScope s_holds) := ⟨rfl, rfl, rfl, by decide +kernel, rfl, by decide +kernel, by decide +kernel⟩
def spHolds (K : PySem.W.Frag) : Sp := fun vs H Q _ => ∃ a L gs, ∃ n : Nat, vs = [.ref a, .int (n : Nat)] ∧ SqT K H a (L.map cellV) ∧ FirstOk gs L ∧ (∀ n ∈ gs, 1 ≤ n ∧ n ≤ 1000) ∧ Q (.bl (NM.mem gs n)) H
theorem ok_holds (B : Bl mg) (D0 : Df K mg "_holds" s_holds) : Cal P w K mg base 1 "_holds" ["leasts", "number"] (spHolds K) := by
  refine D0.cal sc_holds (fun _ _ _ _ _ _ us hl => match us, hl with | [_, _], _ => rfl) (fun vs H Q E h => ?_) (fun f cdv A outer s H vs Q E hr h => ?_)
  · obtain ⟨a, L, gs, n, rfl, _⟩ := h
    rfl
  · obtain ⟨a, L, gs, n, rfl, hS, hF, hg, q⟩ := h
    refine ⟨_, (pss_cons (ps_if (pt_not (pt_truth (pv 0) (by intro _; rfl))) (pss_one (ps_ret (pe_cmpR op_eq (pv 1) pe_int (nomark _)))) pss_nil)
      (pss_cons (ps_set (i := 2) sc_holds.nd rfl (.inl rfl) (pe_ix (r := rIxT K) ix_tup (pv 0) (pe_op op_mod (pv 1) (pe_callB (r := rLenQ K) call_len_seq (by rfl) B.len_ PySem.boot_len (pa_cons (pv 0) pa_nil))) (fun _ _ => rfl)))
      (pss_one (ps_ret (pe_and (pe_cmpR op_notN (pv 2) pe_non (nomark _)) (pe_one (pe_cmpR op_le (pv 2) (pv 1) (nomark _)))))))), ?_⟩
    walk_at "rd"
    cases gs with
    | nil =>
      have := hF.nil rfl
      subst this
      refine ⟨false, .inr (.inl ⟨_, hS, rfl⟩), ?_⟩
      refine iteT ?_
      walk_at "rd"
      have e : decide ((n : Int) = 0) = NM.mem [] n := by
        rw [Bool.eq_iff_iff, NM.mem_iff, NM.sg_nil, decide_eq_true_eq]
      rw [e]
      exact q
    | cons m r =>
      have T := hF.cons m r rfl
      obtain ⟨n1, n2⟩ := hg m (List.mem_cons_self ..)
      obtain ⟨d, rfl⟩ := Int.eq_ofNat_of_zero_le (show 0 ≤ m by omega)
      rw [Int.toNat_natCast] at T
      have hne : (L.map cellV).isEmpty = false := by
        cases L with
        | nil =>
          have := T.len
          simp at this
          omega
        | cons _ _ => rfl
      refine ⟨true, .inr (.inl ⟨_, hS, by rw [hne]; rfl⟩), ?_⟩
      refine iteF ?_
      walk_at "rd"
      refine ⟨a, _, rfl, .inr hS, ?_⟩
      rw [List.length_map, T.len]
      have hd0 : 0 < d := by omega
      have epl : (n : Int) % (d : Int) = ((NM.pl d n : Nat) : Int) := by
        have := Int.emod_nonneg (n : Int) (show (d : Int) ≠ 0 by omega)
        unfold NM.pl
        omega
      obtain ⟨c, hc⟩ : ∃ c, L[NM.pl d n]? = some c := ⟨_, List.getElem?_eq_getElem (by rw [T.len]; exact NM.pl_lt hd0 n)⟩
      refine ⟨(d : Int), rfl, by omega, a, _, _, cellV c, rfl, rfl, hS, by rw [epl]; exact atI_nat (by rw [List.getElem?_map, hc]; rfl), ?_⟩
      have hh := T.holds hd0 (.mem (List.mem_cons_self ..)) (n := n) (by omega)
      have hb : NM.mem ((d : Int) :: r) n = NM.holds d L n := by
        rw [Bool.eq_iff_iff, NM.mem_iff, hh]
      rw [hb] at q
      unfold NM.holds at q
      rw [hc] at q
      cases c with
      | none => exact iteF q
      | some k => exact iteT ⟨k, rfl, q⟩
end
end K11

namespace K11
open PySem PySem.Spec PyProof.Rows L2 Z ZE
local macro_rules | `(tactic| walk_at "rd") => `(tactic| try simp only [cxOf, tSeq, tIfS, tRet, tRetN, tAsg, tDrop, tNext, tBreak, tCont, tNever, tPar, tPar3, tAug, gName, gTup, gCons, gNil, gSub, tVar, tC, tOp, tUn, tCB, tBM, tBM0, tCons, tNil, tTest, tB, tAnd, tOr, tNot, tAndV, tOrV, tNotV, tIf, tChain,
  tTup, tLst, tCall, tMeth, tSl, tPart, tNoPart, tM1, tFmt, tJs_nil, tJs_cons, tCKw, rI0, rI, rU, rEq, rNe, scal_ii, scal_ss, scal_bb, ipI, iStr, iTup, iList, iRng1, sFld, tFld, L2.start, List.getElem?_cons_zero, List.getElem?_cons_succ, List.set_cons_zero, List.set_cons_succ, Option.some.injEq, V.int.injEq, V.bl.injEq, V.str.injEq, V.ref.injEq,
  List.cons.injEq, exists_and_left, exists_eq_left', exists_eq_left, exists_eq_right, exists_eq_right', exists_eq', exists_eq, and_true, true_and, and_self, List.map_cons, List.map_nil, List.length_cons, List.length_nil, List.replicate_succ, List.replicate_zero, List.cons_append, List.nil_append, List.append_nil,
  Nat.add_sub_cancel, Nat.reduceAdd, Nat.reduceSub, if_true, if_false, ite_true, ite_false, Bool.not_true, Bool.not_false, Bool.true_eq_false, Bool.false_eq_true, reduceIte, reduceCtorEq, false_and, exists_false, or_false, false_or, decide_true, decide_false, wipe])

def flds (g d l : V) : List (Str × V) := putF "_leasts" l (putF "_divisor" d (putF "_generators" g []))
theorem fl_g (g d l : V) : (flds g d l).lookup ("_generators" : Str) = some g := by
  unfold flds
  rw [lookup_putF, if_neg (by decide +kernel), lookup_putF, if_neg (by decide +kernel), lookup_putF, if_pos rfl]
theorem fl_d (g d l : V) : (flds g d l).lookup ("_divisor" : Str) = some d := by
  unfold flds
  rw [lookup_putF, if_neg (by decide +kernel), lookup_putF, if_pos rfl]
theorem fl_l (g d l : V) : (flds g d l).lookup ("_leasts" : Str) = some l := by
  unfold flds
  rw [lookup_putF, if_pos rfl]
theorem putF_len (f : Str) (v : V) : ∀ l : List (Str × V), (putF f v l).length ≤ l.length + 1
  | [] => Nat.le_refl _
  | (g, u) :: l => by
    have ih := putF_len f v l
    simp only [putF]
    split
    · simp
    · simp only [List.length_cons]
      omega
/-- a set of numbers with these generators stands at x -/
structure NumAt (K : PySem.W.Frag) (C : Addr) (H : Hp) (x : Addr) (g : List Int) : Prop where
  ex : ∃ dx a b L, H x = some (.ins C dx (flds (.ref a) (.int (gcdL g)) (.ref b))) ∧ SqT K H a (g.map V.int) ∧ SqT K H b (L.map cellV) ∧ FirstOk g L
  least : NM.Least g
  ok : okG g
theorem NumAt.mono {K : PySem.W.Frag} {C : Addr} {H H' : Hp} {x : Addr} {g : List Int} {m : Addr → Prop} (h : NumAt K C H x g) (e : Gr m H H') (hm : ¬ m x) : NumAt K C H' x g := by
  obtain ⟨⟨dx, a, b, L, h1, h2, h3, h4⟩, h5, h6⟩ := h
  exact ⟨⟨dx, a, b, L, e.at h1 hm, e.seqT h2, e.seqT h3, h4⟩, h5, h6⟩
/-- what the class says of itself -/
structure NumC (K : PySem.W.Frag) (C : Addr) : Prop where
  cl : Cls K C
  ng : NoAttr K C "_generators"
  nd : NoAttr K C "_divisor"
  nl : NoAttr K C "_leasts"
  is : IsC K C
  ne : NeC K C
section
variable {P : Program} {w : World} {K : PySem.W.Frag} {mg : Str → Option Value} {base : Heap} {C : Addr}
abbrev s_Numbers__init : Stmt := inClass (topS 79) 0
theorem sc_Numbers__init : FnScope ["self", "generators"] ["self", "generators"] (defScope s_Numbers__init) := ⟨rfl, rfl, rfl, by decide +kernel, rfl, by decide +kernel, by decide +kernel⟩
def spInit (K : PySem.W.Frag) (C : Addr) : Sp := fun vs H Q _ => ∃ x dx a, ∃ ns : List Int, vs = [.ref x, .ref a] ∧ H x = some (.ins C dx []) ∧ SqT K H a (ns.map V.int) ∧ okG ns ∧
  ∀ g H', Gr (· = x) H H' → NumAt K C H' x g → (∀ n ∈ g, n ∈ ns) → (∀ s, NM.Sg g s ↔ NM.Sg ns s) → Q .non H'
theorem body_init (c_check_generators : Cal P w K mg base 3 "_check_generators" ["generators"] (spCkG K)) (c_least_generators : Cal P w K mg base 2 "_least_generators" ["numbers"] (spLeast K)) (c_greatest_divisor : Cal P w K mg base 1 "_greatest_divisor" ["numbers"] (spGd K))
    (c_leasts_by_first : Cal P w K mg base 2 "_leasts_by_first" ["generators"] (spFirst K)) (T : NumC K C) : Body P w K mg base 3 "Numbers.__init__" ["self", "generators"] s_Numbers__init (spInit K C) := by
  intro f cdv A outer s H vs Q E hr h
  obtain ⟨x, dx, a, ns, rfl, hx, hS, hn, q⟩ := h
  refine ⟨_, (pss_cons (ps_expr (pe_cal c_check_generators hr (by decide) rfl (pa_cons (pv 1) pa_nil)))
      (pss_cons (ps_fld (pv 0) (pe_cal c_least_generators hr (by decide) rfl (pa_cons (pv 1) pa_nil)) rfl)
      (pss_cons (ps_fld (pv 0) (pe_cal c_greatest_divisor hr (by decide) rfl (pa_cons (pe_fld (pv 0) rfl) pa_nil)) rfl)
      (pss_one (ps_fld (pv 0) (pe_cal c_leasts_by_first hr (by decide) rfl (pa_cons (pe_fld (pv 0) rfl) pa_nil)) rfl))))), ?_⟩
  walk_at "rd"
  refine ⟨a, ns, rfl, hS, hn, fun H1 e1 => ?_⟩
  walk_at "rd"
  refine ⟨a, ns, rfl, .inl (e1.seqT hS), hn, fun pg g H2 e2 h2 hL hsub hsame => ?_⟩
  have hx2 := (e1.trans e2).get hx
  have hgok : okG g := ⟨Nat.le_trans (asc_len hL.asc hsub) hn.1, fun n hn2 => hn.2 n (hsub n hn2)⟩
  walk_at "rd"
  have eu : ∀ fs, Gr (· = x) H2 (upd H2 x (.ins C dx fs)) := fun fs => Gr.refl.puti hx2 (.inr rfl)
  refine ⟨C, dx, [], hx2, T.cl, T.ng, by decide, C, dx, _, upd_same, T.cl, T.ng, .ref pg, by rw [lookup_putF, if_pos rfl], pg, g, rfl, (eu _).seqT h2, ?_⟩
  refine ⟨C, dx, _, upd_same, T.cl, T.nd, Nat.lt_of_le_of_lt (putF_len _ _ _) (by decide), C, dx, _, upd_same, T.cl, T.ng, .ref pg, by rw [lookup_putF, if_neg (by decide +kernel), lookup_putF, if_pos rfl], ?_⟩
  rw [upd_upd]
  refine ⟨pg, g, rfl, (eu _).seqT h2, hgok.2, fun pl L H3 e3 h3 hF => ?_⟩
  refine ⟨C, dx, _, e3.get upd_same, T.cl, T.nl, Nat.lt_of_le_of_lt (Nat.le_trans (putF_len _ _ _) (Nat.succ_le_succ (putF_len _ _ _))) (by decide), ?_⟩
  have e4 : Gr (· = x) H (upd H3 x (.ins C dx (flds (.ref pg) (.int (gcdL g)) (.ref pl)))) := ((e1.trans e2).of.trans ((eu _).trans e3.of)).puti (e3.get upd_same) (.inr rfl)
  have e5 : Gr (· = x) H3 (upd H3 x (.ins C dx (flds (.ref pg) (.int (gcdL g)) (.ref pl)))) := Gr.refl.puti (e3.get upd_same) (.inr rfl)
  exact q g _ e4 ⟨⟨dx, pg, pl, L, upd_same, e5.seqT (e3.seqT ((eu _).seqT h2)), e5.seqT h3, hF⟩, hL, hgok⟩ hsub hsame
abbrev s_Numbers__contains : Stmt := inClass (topS 79) 7
theorem sc_Numbers__contains : FnScope ["self", "value"] ["self", "value"] (defScope s_Numbers__contains) := ⟨rfl, rfl, rfl, by decide +kernel, rfl, by decide +kernel, by decide +kernel⟩
/-- whether v is an integer of the set -/
noncomputable def inN (g : List Int) (d : D) : Bool := match d with
  | .int i => decide (0 ≤ i) && NM.mem g i
  | _ => false
def spCon (K : PySem.W.Frag) (C : Addr) : Sp := fun vs H Q _ => ∃ x v d g, vs = [.ref x, v] ∧ NumAt K C H x g ∧ DT K H v d ∧ Q (.bl (inN g d)) H
theorem ok_contains (c_is_number : Cal P w K mg base 2 "is_number" ["value"] (spIsNum K)) (c_holds : Cal P w K mg base 1 "_holds" ["leasts", "number"] (spHolds K)) (T : NumC K C) (D0 : Dm K C "__contains__" "Numbers.__contains__" s_Numbers__contains) : Mtd P w K mg base 3 C "__contains__" ["self", "value"] (spCon K C) := by
  refine D0.mtd sc_Numbers__contains (fun _ _ _ _ _ _ us hl => match us, hl with | [_, _], _ => rfl) (fun vs H Q E h => ?_) (fun f cdv A outer s H vs Q E hr h => ?_)
  · obtain ⟨x, v, d, g, rfl, _⟩ := h
    rfl
  · obtain ⟨x, v, d, g, rfl, ⟨⟨dx, a, b, L, h1, h2, h3, h4⟩, h5, h6⟩, hd, q⟩ := h
    refine ⟨_, (pss_one (ps_ret (pe_and (pe_cal c_is_number hr (by decide) rfl (pa_cons (pv 1) pa_nil)) (pe_one (pe_cal c_holds hr (by decide) rfl (pa_cons (pe_fld (pv 0) rfl) (pa_cons (pv 1) pa_nil))))))), ?_⟩
    walk_at "rd"
    refine ⟨v, d, rfl, hd, ?_⟩
    cases hb : d.isNum
    · have e : inN g d = false := by
        cases d with
        | int i =>
          have : decide (0 ≤ i) = false := hb
          show (decide (0 ≤ i) && NM.mem g i) = false
          rw [this]
          rfl
        | _ => rfl
      rw [e] at q
      exact ⟨false, rfl, iteF q⟩
    · cases d with
      | int i =>
        have hi : decide (0 ≤ i) = true := hb
        cases hd
        obtain ⟨n, rfl⟩ := Int.eq_ofNat_of_zero_le (of_decide_eq_true hi)
        have e : inN g (.int (n : Int)) = NM.mem g n := by
          show (decide ((0 : Int) ≤ n) && NM.mem g n) = _
          rw [hi]
          rfl
        rw [e] at q
        refine ⟨true, rfl, iteT ?_⟩
        walk_at "rd"
        exact ⟨C, dx, _, h1, T.cl, T.nl, _, fl_l _ _ _, b, L, g, n, rfl, h3, h4, h6.2, q⟩
      | _ => cases hb
abbrev s_Numbers__eq : Stmt := inClass (topS 79) 10
theorem sc_Numbers__eq : FnScope ["self", "other"] ["self", "other"] (defScope s_Numbers__eq) := ⟨rfl, rfl, rfl, by decide +kernel, rfl, by decide +kernel, by decide +kernel⟩
def spEq (K : PySem.W.Frag) (C : Addr) : Sp := fun vs H Q _ => ∃ x y g k, vs = [.ref x, .ref y] ∧ NumAt K C H x g ∧ NumAt K C H y k ∧ Q (.bl (decide (g = k))) H
theorem ok_eq (B : Bl mg) (g_Numbers : mg "Numbers" = some (.ref C)) (T : NumC K C) (D0 : Dm K C "__eq__" "Numbers.__eq__" s_Numbers__eq) : Mtd P w K mg base 1 C "__eq__" ["self", "other"] (spEq K C) := by
  refine D0.mtd sc_Numbers__eq (fun _ _ _ _ _ _ us hl => match us, hl with | [_, _], _ => rfl) (fun vs H Q E h => ?_) (fun f cdv A outer s H vs Q E hr h => ?_)
  · obtain ⟨x, y, g, k, rfl, _⟩ := h
    rfl
  · obtain ⟨x, y, g, k, rfl, ⟨⟨dx, a, b, L, h1, h2, h3, h4⟩, h5, h6⟩, ⟨⟨dy, a2, b2, L2, k1, k2, k3, k4⟩, k5, k6⟩, q⟩ := h
    refine ⟨_, (pss_one (ps_ret (pe_and (pe_callB (r := rIsi K) call_isi (by rfl) B.isinstance_ (by decide +kernel) (pa_cons (pv 1) (pa_cons (pe_glob (v := .ref C) rfl g_Numbers rfl) pa_nil))) (pe_one (pe_cmpR (r := rEqD K) (op_eqD hr.units) (pe_fld (pv 0) rfl) (pe_fld (pv 1) rfl) (nomark _)))))), ?_⟩
    walk_at "rd"
    refine isi_own T.cl T.is k1 ?_
    refine ⟨true, rfl, iteT ?_⟩
    walk_at "rd"
    refine ⟨C, dx, _, h1, T.cl, T.ng, .ref a, fl_g _ _ _, C, dy, _, k1, T.cl, T.ng, .ref a2, fl_g _ _ _, ?_⟩
    refine ⟨.tuple (g.map PyData.int), .tuple (k.map PyData.int), .tup h2 (dp_ints g), .tup k2 (dp_ints k), shaped_ints g, shaped_ints k, ?_⟩
    have e : PyData.eqv (.tuple (g.map PyData.int)) (.tuple (k.map PyData.int)) = decide (g = k) := eqv_ints g k
    rw [e]
    exact q
end
end K11

namespace K11
open PySem PySem.Spec PyProof.Rows L2 Z ZE RZ
local macro_rules | `(tactic| walk_at "rd") => `(tactic| try simp only [cxOf, tSeq, tIfS, tRet, tRetN, tAsg, tDrop, tNext, tBreak, tCont, tNever, tPar, tPar3, tAug, gName, gTup, gCons, gNil, gSub, tVar, tC, tOp, tUn, tCB, tBM, tBM0, tCons, tNil, tTest, tB, tAnd, tOr, tNot, tAndV, tOrV, tNotV, tIf, tChain,
  tTup, tLst, tCall, tMeth, tSl, tPart, tNoPart, tM1, tFmt, tJs_nil, tJs_cons, tCKw, rI0, rI, rU, rEq, rNe, scal_ii, scal_ss, scal_bb, ipI, iStr, iTup, iList, iRng1, sFld, tFld, L2.start, List.getElem?_cons_zero, List.getElem?_cons_succ, List.set_cons_zero, List.set_cons_succ, Option.some.injEq, V.int.injEq, V.bl.injEq, V.str.injEq, V.ref.injEq,
  List.cons.injEq, exists_and_left, exists_eq_left', exists_eq_left, exists_eq_right, exists_eq_right', exists_eq', exists_eq, and_true, true_and, and_self, List.map_cons, List.map_nil, List.length_cons, List.length_nil, List.replicate_succ, List.replicate_zero, List.cons_append, List.nil_append, List.append_nil,
  Nat.add_sub_cancel, Nat.reduceAdd, Nat.reduceSub, if_true, if_false, ite_true, ite_false, Bool.not_true, Bool.not_false, Bool.true_eq_false, Bool.false_eq_true, reduceIte, reduceCtorEq, false_and, exists_false, or_false, false_or, decide_true, decide_false, wipe])

section
variable {P : Program} {w : World} {K : PySem.W.Frag} {mg : Str → Option Value} {base : Heap} {C : Addr}
/-- the few numbers found by filling, as far as 12 -/
def fewStep (o : Od) (ch : List Row) (few : List Int) (n : Int) : List Int := if few.any (fun m => decide (n - m ∈ few)) || (fillM o n.toNat ch).isSome then few ++ [n] else few
def fewM (o : Od) (ch : List Row) (d : Int) : List Int := ((List.range (12 / d).toNat).map fun i : Nat => d + (i : Int) * d).foldl (fewStep o ch) []
/-- without repetitions -/
def dd : List Int → List Int
  | [] => []
  | x :: l => if x ∈ dd l then dd l else x :: dd l
theorem mem_dd {x : Int} : ∀ {l : List Int}, x ∈ dd l ↔ x ∈ l
  | [] => Iff.rfl
  | y :: l => by
    unfold dd
    have ih := mem_dd (x := x) (l := l)
    split
    · rename_i h
      rw [ih, List.mem_cons]
      refine ⟨.inr, fun z => z.elim (fun e => ?_) id⟩
      rw [e]
      exact mem_dd.mp h
    · rw [List.mem_cons, List.mem_cons, ih]
theorem dd_nodup : ∀ l : List Int, (dd l).Nodup
  | [] => List.nodup_nil
  | y :: l => by
    unfold dd
    split
    · exact dd_nodup l
    · rename_i h
      exact List.nodup_cons.mpr ⟨h, dd_nodup l⟩
theorem nodup_le : ∀ {a b : List Int}, a.Nodup → (∀ x ∈ a, x ∈ b) → a.length ≤ b.length
  | [], _, _, _ => Nat.zero_le _
  | x :: a, b, ha, h => by
    rw [List.nodup_cons] at ha
    have hx := h x (List.mem_cons_self ..)
    have := nodup_le (a := a) (b := b.erase x) ha.2 fun y hy => (List.mem_erase_of_ne (fun z => by rw [z] at hy; exact ha.1 hy)).mpr (h y (List.mem_cons_of_mem _ hy))
    rw [List.length_erase_of_mem hx] at this
    have : 1 ≤ b.length := List.length_pos_of_mem hx
    rw [List.length_cons]
    omega
/-- the possible numbers: made of these; none if there are too many -/
def possM (o : Od) (ch : List Row) : Option (List Int) :=
  if ch = [] then some []
  else if fewM o ch (divM o ch) = [] ∨ (((dd ((fewM o ch (divM o ch)).map fun n => n % (fewM o ch (divM o ch)).headD 0)).length : Nat) : Int) < (fewM o ch (divM o ch)).headD 0 / divM o ch then none
  else some (fewM o ch (divM o ch))
theorem rgc13 {d : Int} (hd : 0 < d) (h : d < 2 ^ 30) : RgC d 13 d (12 / d).toNat := by
  have e : Builtin.Range.rangeSize d 13 d = ((12 / d).toNat : Nat) := by
    unfold Builtin.Range.rangeSize
    rw [if_pos hd]
    split
    · rename_i hlt
      have e1 : (13 : Int) - d - 1 = 12 + (-1) * d := by omega
      have e2 : (12 + (-1) * d) / d = 12 / d + (-1) := Int.add_mul_ediv_right _ _ (by omega)
      rw [e1, e2]
      have := Int.ediv_nonneg (show (0 : Int) ≤ 12 by decide) (show 0 ≤ d by omega)
      omega
    · rename_i hlt
      rw [Int.ediv_eq_zero_of_lt (by decide) (by omega)]
      rfl
  have hn : (12 / d).toNat ≤ 12 := by
    have := Int.ediv_le_self (a := 12) d (by decide)
    omega
  refine ⟨by omega, by omega, ?_, e⟩
  have f : ∀ i : Int, -(2 ^ 63) ≤ i → i < 2 ^ 63 → Builtin.Range.rangeFitsLong i = true := fun i h1 h2 => by
    unfold Builtin.Range.rangeFitsLong
    rw [Bool.and_eq_true]
    exact ⟨decide_eq_true h1, decide_eq_true h2⟩
  unfold Builtin.Range.small
  rw [e, f _ (by omega) (by omega), f _ (by omega) (by omega), f (((12 / d).toNat : Nat) : Int) (by omega) (by omega), if_pos hd, f _ (by omega) (by omega), Bool.or_true]
  rfl
/-- for n in range(a, b, c) -/
theorem forRC {σ : L2.St} {H : Hp} {wi : TI} {g : TG} {tb : TS} {Dn : Ends} {lo c : Int} (n : Nat) (ht : ∀ R : It → Hp → Prop, R (Itc lo c n) H → wi σ H R) (Pv : Nat → L2.St → Hp → Prop) (h0 : Pv 0 σ H)
    (hs : ∀ (i : Nat) σ' H', i < n → Pv i σ' H' → g (.int (lo + (i : Int) * c)) σ' H' fun σ2 H2 => tb { Dn with nx := Pv (i + 1), ct := Pv (i + 1), bk := Dn.nx } σ2 H2)
    (hd : ∀ σ' H', Pv n σ' H' → Dn.nx σ' H') : tFor wi g tb Dn σ H :=
  ht _ (for_it walk_rangeC Pv h0 (fun _ _ _ _ _ => trivial) (fun i x σ' H' H'' hi p y => by
    obtain ⟨rfl, rfl⟩ := y
    exact hs i σ' H'' hi p) hd)
theorem mk_endP {a : Addr} {ns : List Int} {H : Hp} {R : Addr → Hp → Prop} (hS : SqT K H a (ns.map V.int)) (hG : okG ns)
    (k : ∀ x g H', Ex H H' → H x = none → NumAt K C H' x g → (∀ n ∈ g, n ∈ ns) → (∀ s, NM.Sg g s ↔ NM.Sg ns s) → R x H') :
    ∀ x dx : Addr, H x = none → H dx = none → dx ≠ x → spInit K C [.ref x, .ref a] (upd (upd H dx (.own x)) x (.ins C dx [])) (fun v H2 => v = .non ∧ R x H2) E0 := fun x dx hx hdx hne => by
  have e : Ex H (upd (upd H dx (.own x)) x (.ins C dx [])) := (Gr.new hdx).trans (.new (by rw [upd_ne hne.symm]; exact hx))
  exact ⟨x, dx, a, ns, rfl, upd_same, e.seqT hS, hG, fun g H' g1 hN h1 h2 => ⟨rfl, k x g H' (Gr.freshJ e hx g1) hx hN h1 h2⟩⟩
abbrev s_possible0 : Stmt := topS 92
theorem sc_possible0 : FnScope ["order", "chances", "divisor", "few", "boxes", "other", "number"] ["order", "chances"] (defScope s_possible0) := ⟨rfl, rfl, rfl, by decide +kernel, rfl, by decide +kernel, by decide +kernel⟩
def spPoss_ (K : PySem.W.Frag) (C CN CT : Addr) : Sp := fun vs H Q E => ∃ (x : Addr) (o : Od) (v : V) (ch : List Row), vs = [.ref x, v] ∧ OrdAt K C H x o ∧ DT K H v (chD ch) ∧ (ch ≠ [] → ChOk ch ∧ (∀ r ∈ ch, RowOk o.np r) ∧ ch.length = o.ks.length) ∧ (possM o ch = none → raised1 CT "limit" (.int 12) H E) ∧ ∀ l z g H', possM o ch = some l → Ex H H' → H z = none → NumAt K CN H' z g → (∀ s, NM.Sg g s ↔ NM.Sg l s) → Q (.ref z) H'
theorem ok_possible0 {CT CN dE fN : Addr} {qN : Str} (B : Bl mg) (k_MOST_BOXES : ∃ t, mg "MOST_BOXES" = some (.int 12 t)) (hdE : ∀ H, SqT K H dE []) (er_TooMany : PySem.ErrL.ErTxt K mg "TooMany" qN CT fN) (m_Numbers : Mkr P w K mg base 4 "Numbers" CN ["self", "generators"] (spInit K CN)) (m0_Numbers : MkD P w K mg base 4 "Numbers" CN ["self", "generators"] (spInit K CN) (.ref dE)) (c_common_divisor : Cal P w K mg base 7 "common_divisor" ["order", "chances"] (spDivi K C)) (c_fill : Cal P w K mg base 6 "fill" ["order", "boxes", "chances"] (spFill K C)) (D0 : Df K mg "_possible" s_possible0) : Cal P w K mg base 8 "_possible" ["order", "chances"] (spPoss_ K C CN CT) := by
  refine D0.calZ sc_possible0 (fun _ _ _ _ _ _ us hl => match us, hl with | [_, _], _ => rfl) (fun vs H Q E h => ?_) (fun f cdv A outer s H vs Q E hr h => ?_)
  · obtain ⟨x, o, v, ch, rfl, _⟩ := h
    rfl
  · obtain ⟨x, o, v, ch, rfl, O, hv, hch, qr, q⟩ := h
    refine ⟨_, (pss_cons (ps_if (pt_not (pt_truth (pv 1) (by intro _; rfl))) (pss_one (ps_ret (pe_mk0 m0_Numbers hr (by decide) rfl))) pss_nil)
      (pss_cons (ps_set (i := 2) sc_possible0.nd rfl (.inl rfl) (pe_cal c_common_divisor hr (by decide) rfl (pa_cons (pv 0) (pa_cons (pv 1) pa_nil))))
      (pss_cons (ps_set (i := 3) sc_possible0.nd rfl (.inr rfl) (pe_lst pa_nil))
      (pss_cons (ps_for (passes_of rfl) rfl (pi_range3 rfl B.range_ (pa_cons (pv 2) (pa_cons (pe_op op_add (pe_gi rfl k_MOST_BOXES) pe_int) (pa_cons (pv 2) pa_nil)))) (pg_name (i := 4) sc_possible0.nd rfl (.inr rfl)) (pss_one (ps_if (PW.pt (pw_or (pt_val (pe_callB (r := rAny K) (cr_any rfl) (by rfl) B.any_ (by decide +kernel) (pa_cons (pe_lc (own := [("other", 5)]) (g := gName 5) rfl sc_possible0.nd (pi_list (pv 3)) (blkOk_by (N := ["order", "chances", "divisor", "few", "boxes", "other", "number"]) (sc := defScope s_possible0) (by decide +kernel)) (fun _ _ _ _ _ => (pg_name (i := 5) sc_possible0.nd rfl (.inl rfl))) (fun _ _ _ _ _ => pts_nil) (fun _ _ _ _ _ => (pe_cmpR (r := rIn K false) op_in_seq (pe_op op_sub (pv 4) (pv 5)) (pv 3) (by rfl)))) pa_nil))) (pw_or1 (pt_cmpR op_notN (pe_cal c_fill hr (by decide) rfl (pa_cons (pv 0) (pa_cons (pv 4) (pa_cons (pv 1) pa_nil)))) pe_non (nomark _))))) (pss_one (ps_expr (pe_bm PySem.F.plainAttrs_list PySem.F.slot_list_append PySem.F.type_list_append mt_append (pv 3) (pa_cons (pv 4) pa_nil)))) pss_nil)))
      (pss_cons (ps_if (PW.pt (pw_or (pt_not (pt_truth (pv 3) (by intro _; rfl))) (pw_or1 (pt_cmpR op_lt (pe_callB (r := rLenSet w) cr_lenSet (by rfl) B.len_ PySem.boot_len (pa_cons (pe_scI (own := [("number", 6)]) (g := gName 6) rfl sc_possible0.nd (pi_list (pv 3)) (blkOk_by (N := ["order", "chances", "divisor", "few", "boxes", "other", "number"]) (sc := defScope s_possible0) (by decide +kernel)) (fun _ _ _ _ _ => (pg_name (i := 6) sc_possible0.nd rfl (.inl rfl))) (fun _ _ _ _ _ => pts_nil) (fun _ _ _ _ _ => (pe_op op_mod (pv 6) (pe_ix (r := rIxL K) ix_list (pv 3) pe_int (fun _ _ => rfl))))) pa_nil)) (pe_op op_fdiv (pe_ix (r := rIxL K) ix_list (pv 3) pe_int (fun _ _ => rfl)) (pv 2)) (nomark _))))) (pss_one (ps_raiseErL rfl er_TooMany hr (L2N.takes_of rfl rfl rfl rfl) (by exact (pa_cons (pe_gi rfl k_MOST_BOXES) pa_nil)) (by rfl))) pss_nil)
      (pss_one (ps_ret (pe_mk m_Numbers hr (by decide) rfl (pa_cons (pe_callTy (r := rTupOf K) call_tuple_of (by rfl) B.tuple_ (by decide +kernel) (pa_cons (pv 3) pa_nil)) pa_nil))))))))), ?_⟩
    walk_at "rd"
    obtain ⟨va, vxs, rfl, Sv, dv⟩ := dtT hv
    have hvl := dv.lenM
    refine ⟨_, .inr (.inl ⟨vxs, Sv, rfl⟩), ?_⟩
    by_cases hc0 : ch = []
    · subst hc0
      have hx0 : vxs = [] := List.eq_nil_of_length_eq_zero hvl
      subst hx0
      have hp : possM o [] = some [] := rfl
      refine iteT ?_
      exact mk_endP (R := fun z H' => Q (.ref z) H') (ns := []) (hdE H) ⟨by simp, fun n hn => absurd hn (by simp)⟩ fun z g H' e hz hN _ hs => q [] z g H' hp e hz hN hs
    · obtain ⟨hc, hro, hl⟩ := hch hc0
      have hx0 : vxs ≠ [] := fun z => by
        rw [z] at hvl
        exact hc0 (List.eq_nil_of_length_eq_zero hvl.symm)
      obtain ⟨w0, ws, hws⟩ : ∃ w0 ws, vxs = w0 :: ws := by
        cases vxs with
        | nil => exact absurd rfl hx0
        | cons a b => exact ⟨a, b, rfl⟩
      have he : (!vxs.isEmpty) = true := by rw [hws]; rfl
      rw [he]
      refine iteF ?_
      have hdiv := divM_in O.ok hc
      refine ⟨x, .ref va, o, ch, rfl, O, hv, hc, hl, fun H1 e1 => ⟨by decide, fun p hp => ?_⟩⟩
      have hpM : possM o ch = if fewM o ch (divM o ch) = [] ∨ (((dd ((fewM o ch (divM o ch)).map fun n => n % (fewM o ch (divM o ch)).headD 0)).length : Nat) : Int) < (fewM o ch (divM o ch)).headD 0 / divM o ch then none else some (fewM o ch (divM o ch)) := by
        unfold possM
        rw [if_neg hc0]
      rw [hpM] at q qr
      generalize hd : divM o ch = d at q qr hdiv
      have hpH : H p = none := e1.free hp
      have e2 : Ex H (upd H1 p (.lst [])) := e1.trans (.new hp)
      have f2 := upd_same (H := H1) (a := p) (o := .lst [])
      generalize upd H1 p (.lst []) = H2 at e2 f2 ⊢
      generalize hfs : (fun i : Nat => (((List.range (12 / d).toNat).map fun i : Nat => d + (i : Int) * d).take i).foldl (fewStep o ch) []) = fs
      have hf0 : fs 0 = [] := by rw [← hfs]; rfl
      have hfN : fs (12 / d).toNat = fewM o ch d := by
        rw [← hfs]
        simp only []
        rw [List.take_of_length_le (by rw [List.length_map, List.length_range]; exact Nat.le_refl _)]
        rfl
      refine forRC (12 / d).toNat (fun R h => ⟨_, rfl, _, _, rfl, rfl, _, rfl, d, 13, d, _, rfl, rgc13 hdiv.1 hdiv.2, h⟩) (fun i σ' H' => ∃ (y4 y5 y6 : Option V), σ' = [some (.ref x), some (.ref va), some (.int d), some (.ref p), y4, y5, y6] ∧ Ex H H' ∧ H' p = some (.lst ((fs i).map V.int)) ∧ (fs i).length ≤ i ∧ ∀ m ∈ fs i, 1 ≤ m ∧ m ≤ 12) ⟨_, _, _, rfl, e2, by rw [hf0]; exact f2, by rw [hf0]; exact Nat.le_refl _, by rw [hf0]; exact fun m hm => absurd hm (by simp)⟩ ?_ ?_
      · rintro i σ' H' hi ⟨y4, y5, y6, rfl, e, fp, hfl, hfb⟩
        have hId : ((i : Int) + 1) * d ≤ 12 := by
          have h1 : ((i : Int) + 1) * d ≤ 12 / d * d := Int.mul_le_mul_of_nonneg_right (by omega) (by omega)
          have h2 := Int.ediv_mul_le 12 (show d ≠ 0 by omega)
          omega
        have hI0 : 0 ≤ (i : Int) * d := Int.mul_nonneg (by omega) (by omega)
        have hstep : fs (i + 1) = fewStep o ch (fs i) (d + (i : Int) * d) := by
          rw [← hfs]
          simp only []
          rw [List.take_add_one, List.getElem?_map, List.getElem?_range hi]
          show (_ ++ [d + (i : Int) * d]).foldl _ _ = _
          rw [List.foldl_append]
          rfl
        have hnI : 1 ≤ d + (i : Int) * d ∧ d + (i : Int) * d ≤ 12 := by
          rw [Int.add_mul, Int.one_mul] at hId
          omega
        walk_at "rd"
        generalize d + (i : Int) * d = nI at hstep hnI ⊢
        have hNI : nI = ((nI.toNat : Nat) : Int) := by omega
        have hN12 : (12 / d).toNat ≤ 12 := by
          have := Int.ediv_le_self (a := 12) d (by decide)
          omega
        generalize fs (i + 1) = few2 at hstep ⊢
        generalize fs i = few at fp hfl hfb hstep ⊢
        refine lcLf (a := p) (xs := few.map V.int) (fun R h => ⟨_, rfl, h⟩) (sqL fp) (by rw [List.length_map]; omega) ((few.map fun m => decide (nI - m ∈ few)).map V.bl) (by rw [List.length_map, List.length_map, List.length_map]) ?_ ?_
        · intro j xx z H3 Q3 hx hz e3 q3
          rw [List.getElem?_map, Option.map_eq_some_iff] at hx
          obtain ⟨m, hm, rfl⟩ := hx
          rw [List.map_map, List.getElem?_map, hm] at hz
          cases hz
          walk_at "rd"
          refine ⟨p, few.map V.int, rfl, .inl (sqL (e3.get fp)), rfl, by simp [flatV], ?_⟩
          rw [if_neg (by decide), inV_ints]
          exact q3 _ .refl
        · intro D H3 hD e3 f3
          refine ⟨D, _, rfl, sqL f3, _, rfl, ?_⟩
          have fp3 := e3.get fp
          have hany : (few.map fun m => decide (nI - m ∈ few)).any id = few.any (fun m => decide (nI - m ∈ few)) := by rw [List.any_map]; rfl
          rw [hany]
          unfold fewStep at hstep
          generalize few.any (fun m => decide (nI - m ∈ few)) = b1 at hstep ⊢
          have put : few2 = few ++ [nI] → ∀ H4, Ex H3 H4 → Ex H (upd H4 p (.lst (few.map V.int ++ [.int nI]))) ∧ upd H4 p (.lst (few.map V.int ++ [.int nI])) p = some (.lst (few2.map V.int)) ∧ few2.length ≤ i + 1 ∧ ∀ m ∈ few2, 1 ≤ m ∧ m ≤ 12 := fun h H4 e4 => by
            refine ⟨((e.trans e3).trans e4).put (e4.get fp3) (.inl hpH), by rw [upd_same, h, List.map_append]; rfl, by rw [h, List.length_append]; show few.length + 1 ≤ i + 1; omega, fun m hm => ?_⟩
            rw [h] at hm
            rcases List.mem_append.mp hm with z | z
            · exact hfb m z
            · rw [List.mem_singleton.mp z]
              exact hnI
          cases b1 with
          | true =>
            have hs2 : few2 = few ++ [nI] := by rw [hstep]; rfl
            exact iteT ⟨.inl ⟨rfl, _, sqL fp3⟩, p, _, _, rfl, rfl, fp3, smallt (by rw [List.length_map]; omega), _, _, _, ⟨rfl, rfl, rfl⟩, put hs2 H3 .refl⟩
          | false =>
            refine iteF ⟨x, o, nI.toNat, .ref va, ch, by rw [← hNI], O.up (e.trans e3) id, by omega, hv.mono (e.trans e3).any, hc, hro, hl, fun tt H4 e4 ht => ?_⟩
            cases hfm : fillM o nI.toNat ch with
            | none =>
              rw [hfm] at ht hstep
              have hs2 : few2 = few := by rw [hstep]; rfl
              cases ht
              rw [hs2]
              exact iteF ⟨_, _, _, ⟨rfl, rfl, rfl⟩, (e.trans e3).trans e4, e4.get fp3, by omega, hfb⟩
            | some rows =>
              rw [hfm] at ht hstep
              have hs2 : few2 = few ++ [nI] := by rw [hstep]; rfl
              obtain ⟨ta, tx, rfl, _, _⟩ := dtT ht
              exact iteT ⟨.inl ⟨rfl, _, sqL (e4.get fp3)⟩, p, _, _, rfl, rfl, e4.get fp3, smallt (by rw [List.length_map]; omega), _, _, _, ⟨rfl, rfl, rfl⟩, put hs2 H4 e4⟩
      · rintro σ' H' ⟨y4, y5, y6, rfl, e, fp, hfl, hfb⟩
        rw [hfN] at fp hfl hfb
        walk_at "rd"
        refine ⟨_, .inl ⟨_, sqL fp, rfl⟩, ?_⟩
        have hN12 : (12 / d).toNat ≤ 12 := by
          have := Int.ediv_le_self (a := 12) d (by decide)
          omega
        generalize fewM o ch d = few at fp hfl hfb q qr ⊢
        cases few with
        | nil => exact iteT ⟨_, rfl, fun dx hdx => qr (if_pos (.inl rfl)) dx _ (e.trans (.new hdx)) upd_same⟩
        | cons m0 ms =>
          have hm0 := hfb m0 (List.mem_cons_self ..)
          refine iteF ?_
          refine scLf (a := p) (xs := (m0 :: ms).map V.int) (fun R h => ⟨_, rfl, h⟩) (sqL fp) (by rw [List.length_map]; omega) ((m0 :: ms).map fun m => m % m0) (by rw [List.length_map, List.length_map]) ?_ ?_
          · intro j xx z H3 Q3 hx hz e3 q3
            rw [List.getElem?_map, Option.map_eq_some_iff] at hx
            obtain ⟨m, hm, rfl⟩ := hx
            rw [List.getElem?_map, hm] at hz
            cases hz
            walk_at "rd"
            exact ⟨p, _, 0, _, rfl, rfl, sqL (e3.get fp), atI_nat (j := 0) rfl, m0, rfl, by omega, q3 _ .refl⟩
          · intro D H3 n hD e3 hn f3
            have fp3 := e3.get fp
            refine ⟨D, _, n, rfl, f3, fun ks hk hkn hks => ?_⟩
            have hcard : n = (dd ((m0 :: ms).map fun m => m % m0)).length := by
              have h1 := nodup_le hk (b := dd ((m0 :: ms).map fun m => m % m0)) fun x hx => mem_dd.mpr (of_decide_eq_true ((hks x).mpr hx))
              have h2 := nodup_le (dd_nodup ((m0 :: ms).map fun m => m % m0)) (b := ks) fun x hx => (hks x).mp (decide_eq_true (mem_dd.mp hx))
              omega
            refine ⟨p, _, 0, _, rfl, rfl, sqL fp3, atI_nat (j := 0) rfl, m0, rfl, ⟨by omega, by omega⟩, _, rfl, ?_⟩
            rw [hcard]
            by_cases hlt : (((dd ((m0 :: ms).map fun m => m % m0)).length : Nat) : Int) < m0 / d
            · rw [decide_eq_true hlt]
              exact iteT ⟨_, rfl, fun dx hdx => qr (if_pos (.inr hlt)) dx _ ((e.trans e3).trans (.new hdx)) upd_same⟩
            · rw [decide_eq_false hlt]
              have hs : (if (m0 :: ms) = [] ∨ (((dd ((m0 :: ms).map fun n => n % (m0 :: ms).headD 0)).length : Nat) : Int) < (m0 :: ms).headD 0 / d then none else some (m0 :: ms)) = some (m0 :: ms) := if_neg fun z => z.elim (fun z => by cases z) hlt
              refine iteF ⟨_, rfl, p, _, rfl, .inl ⟨sqL fp3, fun l hl2 => ?_⟩⟩
              refine mk_endP (R := fun z H' => Q (.ref z) H') (ns := m0 :: ms) (sqT upd_same) ⟨by omega, fun m hm => by have := hfb m hm; omega⟩ fun z g H5 e5 hz hN _ hsg => ?_
              have E5 := (e.trans e3).trans (Gr.new (m := nob) (o := .tup ((m0 :: ms).map V.int)) hl2)
              exact q (m0 :: ms) z g H5 hs (E5.trans e5) (E5.free hz) hN hsg
end
end K11

namespace K11
open PySem PySem.Spec PyProof.Rows L2 Z ZE RZ
local macro_rules | `(tactic| walk_at "rd") => `(tactic| try simp only [cxOf, tSeq, tIfS, tRet, tRetN, tAsg, tDrop, tNext, tBreak, tCont, tNever, tPar, tPar3, tAug, gName, gTup, gCons, gNil, gSub, tVar, tC, tOp, tUn, tCB, tBM, tBM0, tCons, tNil, tTest, tB, tAnd, tOr, tNot, tAndV, tOrV, tNotV, tIf, tChain,
  tTup, tLst, tCall, tMeth, tSl, tPart, tNoPart, tM1, tFmt, tJs_nil, tJs_cons, tCKw, rI0, rI, rU, rEq, rNe, scal_ii, scal_ss, scal_bb, ipI, iStr, iTup, iList, iRng1, sFld, tFld, L2.start, List.getElem?_cons_zero, List.getElem?_cons_succ, List.set_cons_zero, List.set_cons_succ, Option.some.injEq, V.int.injEq, V.bl.injEq, V.str.injEq, V.ref.injEq,
  List.cons.injEq, exists_and_left, exists_eq_left', exists_eq_left, exists_eq_right, exists_eq_right', exists_eq', exists_eq, and_true, true_and, and_self, List.map_cons, List.map_nil, List.length_cons, List.length_nil, List.replicate_succ, List.replicate_zero, List.cons_append, List.nil_append, List.append_nil,
  Nat.add_sub_cancel, Nat.reduceAdd, Nat.reduceSub, if_true, if_false, ite_true, ite_false, Bool.not_true, Bool.not_false, Bool.true_eq_false, Bool.false_eq_true, reduceIte, reduceCtorEq, false_and, exists_false, or_false, false_or, decide_true, decide_false, wipe])

section
variable {P : Program} {w : World} {K : PySem.W.Frag} {mg : Str → Option Value} {base : Heap} {C : Addr}
abbrev s_reaching : Stmt := topS 66
theorem sc_reaching : FnScope ["row", "direction", "far", "person", "point"] ["row", "direction", "far"] (defScope s_reaching) := ⟨rfl, rfl, rfl, by decide +kernel, rfl, by decide +kernel, by decide +kernel⟩
def spReach (K : PySem.W.Frag) : Sp := fun vs H Q _ => ∃ (u v : V) (r : Row) (d : Pt) (far : Int), vs = [u, v, .int far] ∧ DT K H u (rowD r) ∧ r.length ≤ 3 ∧ (∀ e ∈ r, smP e.2) ∧ DT K H v (ptD d) ∧ ∀ t H', Ex H H' → DT K H' t (rowD (reaching r d far)) → Q t H'
theorem ok_reaching (B : Bl mg) (c_along : Cal P w K mg base 1 "_along" ["direction", "point"] (spAlong K)) (D0 : Df K mg "_reaching" s_reaching) : Cal P w K mg base 2 "_reaching" ["row", "direction", "far"] (spReach K) := by
  refine D0.cal sc_reaching (fun _ _ _ _ _ _ us hl => match us, hl with | [_, _, _], _ => rfl) (fun vs H Q E h => ?_) (fun f cdv A outer s H vs Q E hr h => ?_)
  · obtain ⟨u, v, r, d, far, rfl, _⟩ := h
    rfl
  · obtain ⟨u, v, r, d, far, rfl, h1, h2, hsm, h3, q⟩ := h
    refine ⟨_, (pss_one (ps_ret (pe_callTy (r := rTupOf K) call_tuple_of (by rfl) B.tuple_ (by decide +kernel) (pa_cons (pe_lc (own := [("person", 3), ("point", 4)]) (g := gTup K 2 (gCons (gName 3) (gCons (gName 4) gNil))) rfl sc_reaching.nd (pi_tup (pv 0)) (blkOk_by (N := ["row", "direction", "far", "person", "point"]) (sc := defScope s_reaching) (by decide +kernel)) (fun _ _ _ _ _ => (by exact (pg_tup rfl (pgs_cons (pg_name (i := 3) sc_reaching.nd rfl (.inl rfl)) (pgs_cons (pg_name (i := 4) sc_reaching.nd rfl (.inl rfl)) pgs_nil))))) (fun _ _ _ _ _ => pts_one (pt_cmpR op_eq (pe_cal c_along hr (by decide) rfl (pa_cons (pv 1) (pa_cons (pv 4) pa_nil))) (pv 2) (nomark _))) (fun _ _ _ _ _ => (pe_tup (pa_cons (pv 3) (pa_cons (pv 4) pa_nil))))) pa_nil)))), ?_⟩
    walk_at "rd"
    obtain ⟨b, rs, rfl, S, s⟩ := dtT h1
    have hsl := s.lenM
    refine lcFR (α := Nat × Pt) (fun e y H => DT K H y (tkD e)) (fun d y H H' h e => h.mono e) r (fun e => decide (along d e.2 = far)) (by rw [← hsl]; exact walk_tup (K := K) (a := b) (xs := rs)) (fun R h => ⟨_, rfl, b, rfl, ⟨_, S⟩, h⟩) (fun H' e => e.seqT S) (by omega) ?_ ?_
    · rintro i y H' H'' e hd e1 ⟨rfl, hy⟩ F hF
      obtain ⟨e', he, hed⟩ := s.getM hy
      rw [hd] at he
      cases he
      obtain ⟨c, ys, rfl, S2, s2⟩ := dtT (hed.mono e1.any)
      cases s2 with
      | cons z1 s2 => cases s2 with
        | cons z2 s2 =>
          cases s2
          cases z1
          walk_at "rd"
          refine ⟨_, S2, rfl, _, _, rfl, _, _, rfl, rfl, hF _ _ rfl .refl (fun B hB => ?_) fun hp H3 Q' e3 k => ?_⟩
          · walk_at "rd"
            refine ⟨v, _, d, e.2, rfl, h3.mono e1.any, z2, hsm e (List.mem_of_getElem? hd), rfl, ?_⟩
            have ed : decide (V.int (along d e.2) = V.int far) = decide (along d e.2 = far) := by simp
            rw [ed]
            exact hB _ .refl
          · walk_at "rd"
            exact ⟨by decide, fun T hT => k (.ref T) _ (.new hT) (.tup (sqT upd_same) (.cons (.int _) (.cons (z2.mono (e3.any.trans (Gr.new hT))) .nil)))⟩
    · intro D ys H' hD e1 f1 l1 r1
      refine ⟨D, ys, rfl, .inl ⟨sqL f1, fun T hT => q (.ref T) _ (e1.trans (.new hT)) (.tup (sqT upd_same) (DTs.of (by rw [List.length_map]; exact l1) fun i y hy => ?_))⟩⟩
      have hi : i < (r.filter fun e => decide (along d e.2 = far)).length := by
        rw [← l1]
        exact (List.getElem?_eq_some_iff.mp hy).1
      exact ⟨_, by rw [List.getElem?_map, reaching, List.getElem?_eq_getElem hi]; rfl, (r1 i y _ hy (List.getElem?_eq_getElem hi)).mono (Gr.new hT)⟩
end
end K11

namespace K11
open PySem PySem.Spec PyProof.Rows L2 Z ZE RZ
local macro_rules | `(tactic| walk_at "rd") => `(tactic| try simp only [cxOf, tSeq, tIfS, tRet, tRetN, tAsg, tDrop, tNext, tBreak, tCont, tNever, tPar, tPar3, tAug, gName, gTup, gCons, gNil, gSub, tVar, tC, tOp, tUn, tCB, tBM, tBM0, tCons, tNil, tTest, tB, tAnd, tOr, tNot, tAndV, tOrV, tNotV, tIf, tChain,
  tTup, tLst, tCall, tMeth, tSl, tPart, tNoPart, tM1, tFmt, tJs_nil, tJs_cons, tCKw, rI0, rI, rU, rEq, rNe, scal_ii, scal_ss, scal_bb, ipI, iStr, iTup, iList, iRng1, sFld, tFld, L2.start, List.getElem?_cons_zero, List.getElem?_cons_succ, List.set_cons_zero, List.set_cons_succ, Option.some.injEq, V.int.injEq, V.bl.injEq, V.str.injEq, V.ref.injEq,
  List.cons.injEq, exists_and_left, exists_eq_left', exists_eq_left, exists_eq_right, exists_eq_right', exists_eq', exists_eq, and_true, true_and, and_self, List.map_cons, List.map_nil, List.length_cons, List.length_nil, List.replicate_succ, List.replicate_zero, List.cons_append, List.nil_append, List.append_nil,
  Nat.add_sub_cancel, Nat.reduceAdd, Nat.reduceSub, if_true, if_false, ite_true, ite_false, Bool.not_true, Bool.not_false, Bool.true_eq_false, Bool.false_eq_true, reduceIte, reduceCtorEq, false_and, exists_false, or_false, false_or, decide_true, decide_false, wipe])

section
variable {P : Program} {w : World} {K : PySem.W.Frag} {mg : Str → Option Value} {base : Heap} {C : Addr}
def tkP (e : Nat × Pt) : PyData := .tuple [.int (e.1 : Int), .tuple [.int e.2.1, .int e.2.2]]
def rowPy (r : Row) : PyData := .tuple (r.map tkP)
theorem tk_dp {H : Hp} {y : V} {e : Nat × Pt} (h : DT K H y (tkD e)) : Dp K H y (tkP e) := by
  obtain ⟨c, cs, rfl, S, s⟩ := dtT h
  cases s with
  | cons z1 s => cases s with
    | cons z2 s =>
      cases s
      cases z1
      obtain ⟨pa, rfl, SA⟩ := DT.pair z2
      exact .tup S (.cons (.int _) (.cons (.tup SA (.cons (.int _) (.cons (.int _) .nil))) .nil))
theorem tks_dp {H : Hp} : ∀ {xs : List V} {r : Row}, DTs K H xs (r.map tkD) → DpAll K H xs (r.map tkP)
  | _, [], h => by
    cases h
    exact .nil
  | _, e :: r, h => by
    cases h with
    | cons h1 h2 => exact .cons (tk_dp h1) (tks_dp h2)
theorem row_dp {H : Hp} {y : V} {r : Row} (h : DT K H y (rowD r)) : Dp K H y (rowPy r) := by
  obtain ⟨c, cs, rfl, S, s⟩ := dtT h
  exact .tup S (tks_dp s)
theorem rows_dp {H : Hp} : ∀ {xs : List V} {rows : List Row}, DTs K H xs (rows.map rowD) → DpAll K H xs (rows.map rowPy)
  | _, [], h => by
    cases h
    exact .nil
  | _, e :: r, h => by
    cases h with
    | cons h1 h2 => exact .cons (row_dp h1) (rows_dp h2)
theorem tks_lay : ∀ r : Row, PyData.canLayAll0 (r.map tkP) = true ∧ PyData.depthAll (r.map tkP) ≤ 4
  | [] => ⟨rfl, by simp [PyData.depthAll]⟩
  | e :: r => by
    have ih := tks_lay r
    refine ⟨?_, ?_⟩
    · simp only [List.map_cons, PyData.canLayAll0, tkP, PyData.canLay0, Bool.and_true, Bool.true_and]
      exact ih.1
    · simp only [List.map_cons, PyData.depthAll, tkP, PyData.depth]
      have := ih.2
      omega
theorem rows_lay : ∀ rows : List Row, PyData.canLayAll0 (rows.map rowPy) = true ∧ PyData.depthAll (rows.map rowPy) ≤ 5
  | [] => ⟨rfl, by simp [PyData.depthAll]⟩
  | r :: rows => by
    have ih := rows_lay rows
    have h1 := tks_lay r
    refine ⟨?_, ?_⟩
    · simp only [List.map_cons, PyData.canLayAll0, rowPy, PyData.canLay0, h1.1, Bool.and_true, Bool.true_and]
      exact ih.1
    · simp only [List.map_cons, PyData.depthAll, rowPy, PyData.depth]
      have := ih.2
      omega
theorem rows_shaped (rows : List Row) : SeqAt.shaped (.list (rows.map rowPy)) = true := by
  have h := rows_lay rows
  unfold SeqAt.shaped
  rw [Bool.and_eq_true]
  refine ⟨?_, decide_eq_true ?_⟩
  · simp only [PyData.canLay0]
    exact h.1
  · simp only [PyData.depth]
    have := h.2
    omega
theorem rows_empty (rows : List Row) : ((rows.map rowPy).any fun z => PyData.eqv z (.tuple [])) = decide ([] ∈ rows) := by
  induction rows with
  | nil => rfl
  | cons r rows ih =>
    rw [List.map_cons, List.any_cons, ih]
    cases r with
    | nil => simp [rowPy, PyData.eqv, PyData.eqvAll]
    | cons e r => simp [rowPy, PyData.eqv, PyData.eqvAll]
theorem reach_sub {r : Row} {d : Pt} {f : Int} {e : Nat × Pt} (h : e ∈ reaching r d f) : e ∈ r := (List.mem_filter.mp h).1
/-- rows that are no longer than these, near -/
def RowsIn (n : Nat) (rows : List Row) : Prop := rows.length = n ∧ ∀ r ∈ rows, r.length ≤ 3 ∧ ∀ e ∈ r, smP e.2
theorem RowsIn.step {n : Nat} {rows : List Row} {far : List Int} {d : Pt} (h : RowsIn n rows) (hf : far.length = n) : RowsIn n ((rows.zip far).map fun q => reaching q.1 d q.2) := by
  refine ⟨by rw [List.length_map, List.length_zip, h.1, hf, Nat.min_self], fun r hr => ?_⟩
  obtain ⟨q, hq, rfl⟩ := List.mem_map.mp hr
  have h2 := h.2 q.1 (List.of_mem_zip hq).1
  exact ⟨Nat.le_trans (List.length_filter_le _ _) h2.1, fun e he => h2.2 e (reach_sub he)⟩
abbrev s_takers : Stmt := topS 57
theorem sc_takers : FnScope ["order", "kept", "direction", "reached", "room", "row", "far"] ["order"] (defScope s_takers) := ⟨rfl, rfl, rfl, by decide +kernel, rfl, by decide +kernel, by decide +kernel⟩
def spTakers (K : PySem.W.Frag) (C : Addr) : Sp := fun vs H Q _ => ∃ x o, vs = [.ref x] ∧ OrdAt K C H x o ∧ ∀ a H', Ex H H' → DT K H' (.ref a) (chD (takersM o)) → Q (.ref a) H'
theorem ok_takers (B : Bl mg) (c_points_of_things : Cal P w K mg base 4 "points_of_things" ["order"] (spPtsO K C)) (c_sides : Cal P w K mg base 7 "sides" ["order"] (spSides K C)) (c_reaching : Cal P w K mg base 2 "_reaching" ["row", "direction", "far"] (spReach K)) (D0 : Df K mg "takers" s_takers) : Cal P w K mg base 8 "takers" ["order"] (spTakers K C) := by
  refine D0.cal sc_takers (fun _ _ _ _ _ _ us hl => match us, hl with | [_], _ => rfl) (fun vs H Q E h => ?_) (fun f cdv A outer s H vs Q E hr h => ?_)
  · obtain ⟨x, o, rfl, _⟩ := h
    rfl
  · obtain ⟨x, o, rfl, O, q⟩ := h
    refine ⟨_, (pss_cons (ps_set (i := 1) sc_takers.nd rfl (.inl rfl) (pe_cal c_points_of_things hr (by decide) rfl (pa_cons (pv 0) pa_nil)))
      (pss_cons (ps_if (pt_cmpR (r := rInDL K) (op_inDL (RoomU hr)) (pe_tup pa_nil) (pv 1) (by rfl)) (pss_one (ps_ret (pe_tup pa_nil))) pss_nil)
      (pss_cons (ps_for PassesOwn.never rfl (pi_list (pe_cal c_sides hr (by decide) rfl (pa_cons (pv 0) pa_nil))) (pg_tup rfl (pgs_cons (pg_name (i := 2) sc_takers.nd rfl (.inr rfl)) (pgs_cons (pg_name (i := 3) sc_takers.nd rfl (.inl rfl)) (pgs_cons (pg_name (i := 4) sc_takers.nd rfl (.inl rfl)) pgs_nil)))) (pss_cons (ps_if (pt_cmpR op_lt (pv 4) pe_int (nomark _)) (pss_one (ps_ret (pe_tup pa_nil))) pss_nil)
      (pss_one (ps_if (pt_cmpR op_eq (pv 4) pe_int (nomark _)) (pss_one (ps_setLc (i := 1) (own := [("row", 5), ("far", 6)]) (g := gTup K 2 (gCons (gName 5) (gCons (gName 6) gNil))) rfl sc_takers.nd rfl rfl (sw_true rfl rfl rfl (by decide +kernel)) (ZM.pi_zipM true false (by rfl) B.zip_ (pa_cons (pv 1) (pa_cons (pv 3) pa_nil))) (blkOk_by (N := ["order", "kept", "direction", "reached", "room", "row", "far"]) (sc := defScope s_takers) (by decide +kernel)) (fun _ _ _ _ _ => (by exact (pg_tup rfl (pgs_cons (pg_name (i := 5) sc_takers.nd rfl (.inl rfl)) (pgs_cons (pg_name (i := 6) sc_takers.nd rfl (.inl rfl)) pgs_nil))))) (fun _ _ _ _ _ => pts_nil) (fun _ _ _ _ _ => (pe_cal c_reaching hr (by decide) rfl (pa_cons (pv 5) (pa_cons (pv 2) (pa_cons (pv 6) pa_nil))))))) pss_nil))))
      (pss_one (ps_ret (pe_callTy (r := rTupOf K) call_tuple_of (by rfl) B.tuple_ (by decide +kernel) (pa_cons (pv 1) pa_nil))))))), ?_⟩
    walk_at "rd"
    have ho := O.ok
    obtain ⟨n1, n2, n3⟩ := pts_len ho
    refine ⟨x, o, rfl, O, fun l ys H1 e1 _ f1 h1 => ⟨by decide, fun p hp => ?_⟩⟩
    have e2 : Ex H1 (upd H1 p (.tup [])) := .new hp
    have f2 := upd_same (H := H1) (a := p) (o := .tup [])
    generalize upd H1 p (.tup []) = H2 at e2 f2 ⊢
    have f1' := e2.get f1
    have h1' := h1.mono e2.any
    refine ⟨.tuple [], (ptsO o).map rowPy, .tup (sqT f2) .nil, .lst (sqL f1') (rows_dp h1'), rfl, rows_shaped _, _, rfl, ?_⟩
    rw [rows_empty]
    have E2 := e1.trans e2
    by_cases hne : [] ∈ ptsO o
    · rw [decide_eq_true hne]
      refine iteT ⟨by decide, fun p2 hp2 => q p2 _ (E2.trans (.new hp2)) ?_⟩
      rw [takersM, if_pos hne]
      exact .tup (sqT upd_same) .nil
    rw [decide_eq_false hne]
    refine iteF ?_
    have hT : takersM o = tkLoop (sidesM o) (ptsO o) := by rw [takersM, if_neg hne]
    refine forLm (fun p xs H3 => Ex H2 H3 ∧ H3 p = some (.lst xs) ∧ DTs K H3 xs ((sidesM o).map sideD)) (fun R h => ⟨_, rfl, x, o, rfl, O.up E2 id, hne, fun l ys H3 e3 f3 h3 => h l ys H3 ⟨e3, f3, h3⟩⟩) (fun p xs H3 c => sqL c.2.1)
      (fun p xs i σ' H' => ∃ (y2 y3 y4 y5 y6 : Option V) (l : Addr) (ys : List V) (kept : List Row), σ' = [some (.ref x), some (.ref l), y2, y3, y4, y5, y6] ∧ Ex H2 H' ∧ H' p = some (.lst xs) ∧ DTs K H' xs ((sidesM o).map sideD) ∧ H' l = some (.lst ys) ∧ DTs K H' ys (kept.map rowD) ∧ RowsIn o.ks.length kept ∧ takersM o = tkLoop ((sidesM o).drop i) kept)
      (fun p xs H3 c => ⟨_, _, _, _, _, l, ys, ptsO o, rfl, c.1, c.2.1, c.2.2, c.1.get f1', h1'.mono c.1.any, ⟨n1, fun r hr => ⟨n3 r hr, pts_small ho r hr⟩⟩, by rw [List.drop_zero]; exact hT⟩) (fun p xs i σ' H' ⟨_, _, _, _, _, _, _, _, _, _, f, _⟩ => sqL f) ?_ ?_
    · rintro p xs i y σ' H3 hy ⟨y2, y3, y4, y5, y6, l, ys, kept, rfl, e3, fp, hxs, fl, hys, hin, htk⟩
      obtain ⟨s, hs, hyd⟩ := hxs.getM hy
      have hi : i < (sidesM o).length := (List.getElem?_eq_some_iff.mp hs).1
      have hdr : (sidesM o).drop i = s :: (sidesM o).drop (i + 1) := by
        rw [List.drop_eq_getElem_cons hi]
        congr 1
        rw [List.getElem?_eq_getElem hi] at hs
        exact Option.some.inj hs
      have hfl : s.2.1.length = o.ks.length := by
        obtain ⟨d, _, rfl⟩ := List.mem_map.mp (List.mem_of_getElem? hs)
        rw [sideM, farM, List.length_map, n1]
      have E3 := E2.trans e3
      obtain ⟨c, cs, rfl, S, sd⟩ := dtT hyd
      cases sd with
      | cons z1 sd => cases sd with
        | cons z2 sd => cases sd with
          | cons z3 sd =>
            cases sd
            cases z3
            obtain ⟨t, ts, rfl, ST, st⟩ := dtT z2
            have hts := dtsIntsInv st
            subst hts
            walk_at "rd"
            refine ⟨_, S, rfl, _, _, rfl, _, _, rfl, _, _, rfl, rfl, ?_⟩
            walk_at "rd"
            rw [hdr] at htk
            by_cases h0 : s.2.2 < 0
            · rw [decide_eq_true h0]
              refine iteT ⟨by decide, fun p2 hp2 => q p2 _ (E3.trans (.new hp2)) ?_⟩
              rw [htk, tkLoop, if_pos h0]
              exact .tup (sqT upd_same) .nil
            rw [decide_eq_false h0]
            refine iteF ?_
            by_cases h1 : s.2.2 = 0
            · rw [decide_eq_true h1]
              refine iteT ?_
              have hkl := hys.lenM
              have hkn := hin.1
              have hzl : (kept.zip s.2.1).length = o.ks.length := by rw [List.length_zip, hkn, hfl, Nat.min_self]
              have hk4 := ho.k1
              refine lcFR (α := Row × Int) (fun q y H => DT K H y (rowD (reaching q.1 s.1 q.2))) (fun d y H H' h e => h.mono e) (kept.zip s.2.1) (fun _ => true) (by rw [hzl]; exact walk_zipM (K := K) (b1 := true) (b2 := false) (a := l) (b := t) (xs := ys) (ys := s.2.1.map V.int) (by rw [hkl, hkn]) (by rw [List.length_map, hfl])) (fun R h => by exact ⟨_, rfl, _, rfl, l, t, ys, s.2.1.map V.int, rfl, sqL fl, ST, h⟩) (fun H' e => by exact ⟨e.seqL (sqL fl) id, e.seqT ST⟩) (by omega) ?_ ?_
              · rintro j y H4 H5 q4 hq4 e4 ⟨T, u, v, rfl, hT, rfl, hu, hv⟩ F hF
                obtain ⟨hq1, hq2⟩ := List.getElem?_zip_eq_some.mp hq4
                obtain ⟨r', hr', hrd⟩ := hys.getM hu
                rw [hq1] at hr'
                cases hr'
                replace hv : (s.2.1.map V.int)[j]? = some v := hv
                rw [List.getElem?_map, hq2] at hv
                cases hv
                have e5 : Ex H4 (upd H4 T (.tup [u, .int q4.2])) := .new hT
                have f5 := upd_same (H := H4) (a := T) (o := .tup [u, .int q4.2])
                generalize upd H4 T (.tup [u, .int q4.2]) = H5 at e5 f5 ⊢
                have hri := hin.2 q4.1 (List.mem_of_getElem? hq1)
                walk_at "rd"
                refine ⟨_, sqT f5, rfl, _, _, rfl, _, _, rfl, rfl, hF _ _ rfl e5 (fun B hB => hB H5 .refl) fun _ H6 Q' e6 k => ?_⟩
                walk_at "rd"
                exact ⟨u, _, q4.1, s.1, q4.2, rfl, hrd.mono ((e4.trans e5).trans e6).any, hri.1, hri.2, z1.mono ((e4.trans e5).trans e6).any, fun t' H7 e7 h7 => k t' H7 e7 h7⟩
              · intro D2 ws H4 hD2 e4 f4 l4 r4
                have hft : (kept.zip s.2.1).filter (fun _ => true) = kept.zip s.2.1 := List.filter_eq_self.mpr fun _ _ => rfl
                rw [hft] at l4 r4
                refine ⟨_, _, _, _, _, D2, ⟨rfl, rfl, rfl, rfl, rfl, rfl⟩, e3.trans e4, e4.get fp, hxs.mono e4.any, ws, f4, (kept.zip s.2.1).map fun q => reaching q.1 s.1 q.2, DTs.of (by rw [List.length_map, List.length_map, l4]) (fun j y hj => ?_), hin.step hfl, ?_⟩
                · have hjl : j < (kept.zip s.2.1).length := by
                    rw [← l4]
                    exact (List.getElem?_eq_some_iff.mp hj).1
                  exact ⟨_, by rw [List.map_map, List.getElem?_map, List.getElem?_eq_getElem hjl]; rfl, r4 j y _ hj (List.getElem?_eq_getElem hjl)⟩
                · rw [htk, tkLoop, if_neg h0, if_pos h1]
            · rw [decide_eq_false h1]
              refine iteF ⟨_, _, _, _, _, l, ⟨rfl, rfl, rfl, rfl, rfl, rfl⟩, e3, fp, hxs, ys, fl, kept, hys, hin, ?_⟩
              rw [htk, tkLoop, if_neg h0, if_neg h1]
    · rintro p xs σ' H3 ⟨y2, y3, y4, y5, y6, l, ys, kept, rfl, e3, fp, hxs, fl, hys, hin, htk⟩
      walk_at "rd"
      have hxl := hxs.lenM
      rw [hxl, List.drop_length] at htk
      refine ⟨l, ys, rfl, .inl ⟨sqL fl, fun T hT => q T _ ((E2.trans e3).trans (.new hT)) ?_⟩⟩
      rw [htk, tkLoop]
      exact .tup (sqT upd_same) (hys.mono (Gr.new hT))
end
end K11

namespace K11
open PySem PySem.Spec PyProof.Rows L2 Z ZE RZ
local macro_rules | `(tactic| walk_at "rd") => `(tactic| try simp only [cxOf, tSeq, tIfS, tRet, tRetN, tAsg, tDrop, tNext, tBreak, tCont, tNever, tPar, tPar3, tAug, gName, gTup, gCons, gNil, gSub, tVar, tC, tOp, tUn, tCB, tBM, tBM0, tCons, tNil, tTest, tB, tAnd, tOr, tNot, tAndV, tOrV, tNotV, tIf, tChain,
  tTup, tLst, tCall, tMeth, tSl, tPart, tNoPart, tM1, tFmt, tJs_nil, tJs_cons, tCKw, rI0, rI, rU, rEq, rNe, scal_ii, scal_ss, scal_bb, ipI, iStr, iTup, iList, iRng1, sFld, tFld, L2.start, List.getElem?_cons_zero, List.getElem?_cons_succ, List.set_cons_zero, List.set_cons_succ, Option.some.injEq, V.int.injEq, V.bl.injEq, V.str.injEq, V.ref.injEq,
  List.cons.injEq, exists_and_left, exists_eq_left', exists_eq_left, exists_eq_right, exists_eq_right', exists_eq', exists_eq, and_true, true_and, and_self, List.map_cons, List.map_nil, List.length_cons, List.length_nil, List.replicate_succ, List.replicate_zero, List.cons_append, List.nil_append, List.append_nil,
  Nat.add_sub_cancel, Nat.reduceAdd, Nat.reduceSub, if_true, if_false, ite_true, ite_false, Bool.not_true, Bool.not_false, Bool.true_eq_false, Bool.false_eq_true, reduceIte, reduceCtorEq, false_and, exists_false, or_false, false_or, decide_true, decide_false, wipe])

section
variable {P : Program} {w : World} {K : PySem.W.Frag} {mg : Str → Option Value} {base : Heap} {C : Addr}
/-- the takers are as rows must be -/
def TkOk (o : Od) : Prop := takersM o ≠ [] → ChOk (takersM o) ∧ (∀ r ∈ takersM o, RowOk o.np r) ∧ (takersM o).length = o.ks.length
abbrev s_possible : Stmt := topS 91
theorem sc_possible : FnScope ["order"] ["order"] (defScope s_possible) := ⟨rfl, rfl, rfl, by decide +kernel, rfl, by decide +kernel, by decide +kernel⟩
def spPossible (K : PySem.W.Frag) (C CN CT : Addr) : Sp := fun vs H Q E => ∃ (x : Addr) (o : Od), vs = [.ref x] ∧ OrdAt K C H x o ∧ TkOk o ∧ (possM o (takersM o) = none → raised1 CT "limit" (.int 12) H E) ∧ ∀ l z g H', possM o (takersM o) = some l → Ex H H' → H z = none → NumAt K CN H' z g → (∀ s, NM.Sg g s ↔ NM.Sg l s) → Q (.ref z) H'
theorem ok_possible {CT CN CB : Addr} (B : Bl mg) (c_check_order : Cal P w K mg base 3 "check_order" ["value"] (spCkO K C CB)) (c_takers : Cal P w K mg base 8 "takers" ["order"] (spTakers K C)) (c_possible0 : Cal P w K mg base 8 "_possible" ["order", "chances"] (spPoss_ K C CN CT)) (D0 : Df K mg "possible" s_possible) : Cal P w K mg base 9 "possible" ["order"] (spPossible K C CN CT) := by
  refine D0.calZ sc_possible (fun _ _ _ _ _ _ us hl => match us, hl with | [_], _ => rfl) (fun vs H Q E h => ?_) (fun f cdv A outer s H vs Q E hr h => ?_)
  · obtain ⟨x, o, rfl, _⟩ := h
    rfl
  · obtain ⟨x, o, rfl, O, hT, qr, q⟩ := h
    refine ⟨_, (pss_cons (ps_expr (pe_calX (passX (L2N.takes_of rfl rfl rfl rfl)) c_check_order hr (by decide) rfl (pa_cons (pv 0) pa_nil)))
      (pss_one (ps_ret (pe_calX (passX (L2N.takes_of rfl rfl rfl rfl)) c_possible0 hr (by decide) rfl (pa_cons (pv 0) (pa_cons (pe_cal c_takers hr (by decide) rfl (pa_cons (pv 0) pa_nil)) pa_nil)))))), ?_⟩
    walk_at "rd"
    refine ⟨.ref x, rfl, .inl ⟨O.isO, x, o, rfl, O, fun a H1 e1 hd => ?_⟩⟩
    exact ⟨x, o, .ref a, takersM o, rfl, O.up e1 id, hd, hT, fun hp d H2 e2 hx => qr hp d H2 (e1.trans e2) hx, fun l z g H2 hp e2 hz hN hs => q l z g H2 hp (e1.trans e2) (e1.free hz) hN hs⟩
end
end K11

/-! rooms: how far rows lead, and that directions without room share points. -/
namespace K11
open PySem PySem.Spec PyProof.Rows L2 Z ZE
/-- how far a row leads -/
def hgt (r : Row) (d : Pt) : Int := maxI (r.map fun e => along d e.2)
theorem max_ex : ∀ {l : List Int}, l ≠ [] → ∃ m ∈ l, ∀ y ∈ l, y ≤ m
  | [], h => absurd rfl h
  | [x], _ => ⟨x, List.mem_cons_self .., fun y hy => by rw [List.mem_singleton.mp hy]; exact Int.le_refl _⟩
  | x :: y :: l, _ => by
    obtain ⟨m, hm, h⟩ := max_ex (l := y :: l) (by simp)
    by_cases hx : x ≤ m
    · refine ⟨m, List.mem_cons_of_mem _ hm, fun z hz => ?_⟩
      rcases List.mem_cons.mp hz with rfl | hz
      · exact hx
      · exact h z hz
    · refine ⟨x, List.mem_cons_self .., fun z hz => ?_⟩
      rcases List.mem_cons.mp hz with rfl | hz
      · exact Int.le_refl _
      · have := h z hz
        omega
theorem hgt_at {r : Row} (h : r ≠ []) (d : Pt) : ∃ e ∈ r, along d e.2 = hgt r d := by
  obtain ⟨m, hm, hy⟩ := max_ex (l := r.map fun e => along d e.2) (by simpa using h)
  obtain ⟨e, he, rfl⟩ := List.mem_map.mp hm
  exact ⟨e, he, maxI_of hm hy⟩
theorem hgt_ge {r : Row} {d : Pt} {e : Nat × Pt} (he : e ∈ r) : along d e.2 ≤ hgt r d := by
  have hne : (r.map fun e => along d e.2) ≠ [] := fun z => by
    rw [List.map_eq_nil_iff] at z
    rw [z] at he
    cases he
  obtain ⟨m, hm, hy⟩ := max_ex hne
  have := maxI_of hm hy
  unfold hgt
  rw [← this]
  exact hy _ (List.mem_map.mpr ⟨e, he, rfl⟩)
/-- a sum of three directions -/
def mix (a b c : Int) (d e f : Pt) : Pt := (a * d.1 + b * e.1 + c * f.1, a * d.2 + b * e.2 + c * f.2)
theorem along_mix (a b c : Int) (d e f p : Pt) : along (mix a b c d e f) p = a * along d p + b * along e p + c * along f p := by
  unfold along mix
  grind
/-- how much a point lacks -/
def lack (a b c : Int) (d e f : Pt) (r : Row) (p : Pt) : Int := a * (hgt r d - along d p) + b * (hgt r e - along e p) + c * (hgt r f - along f p)
theorem hgt_mix {a b c : Int} (ha : 0 ≤ a) (hb : 0 ≤ b) (hc : 0 ≤ c) (d e f : Pt) {r : Row} (hr : r ≠ []) : hgt r (mix a b c d e f) ≤ a * hgt r d + b * hgt r e + c * hgt r f ∧ ((∀ x ∈ r, 0 < lack a b c d e f r x.2) → hgt r (mix a b c d e f) < a * hgt r d + b * hgt r e + c * hgt r f) := by
  obtain ⟨x, hx, hm⟩ := hgt_at hr (mix a b c d e f)
  rw [along_mix] at hm
  have h1 := Int.mul_le_mul_of_nonneg_left (hgt_ge (d := d) hx) ha
  have h2 := Int.mul_le_mul_of_nonneg_left (hgt_ge (d := e) hx) hb
  have h3 := Int.mul_le_mul_of_nonneg_left (hgt_ge (d := f) hx) hc
  refine ⟨by omega, fun h => ?_⟩
  have := h x hx
  unfold lack at this
  rw [Int.mul_sub, Int.mul_sub, Int.mul_sub] at this
  omega
/-- what all kinds lead to -/
def lead (l : List (Kd × Row)) (d : Pt) : Int := (l.map fun q => q.1.c * hgt q.2 d).sum
theorem lead_mix {a b c : Int} (ha : 0 ≤ a) (hb : 0 ≤ b) (hc : 0 ≤ c) (d e f : Pt) : ∀ {l : List (Kd × Row)}, (∀ q ∈ l, 0 < q.1.c ∧ q.2 ≠ []) → lead l (mix a b c d e f) ≤ a * lead l d + b * lead l e + c * lead l f ∧ ((∃ q ∈ l, ∀ x ∈ q.2, 0 < lack a b c d e f q.2 x.2) → lead l (mix a b c d e f) < a * lead l d + b * lead l e + c * lead l f)
  | [], _ => ⟨by simp [lead], fun ⟨q, hq, _⟩ => absurd hq (by simp)⟩
  | q :: l, h => by
    have hq := h q (List.mem_cons_self ..)
    have ih := lead_mix ha hb hc d e f (l := l) fun x hx => h x (List.mem_cons_of_mem _ hx)
    have hm := hgt_mix ha hb hc d e f hq.2
    have e1 : ∀ y, lead (q :: l) y = q.1.c * hgt q.2 y + lead l y := fun y => by simp [lead]
    rw [e1, e1, e1, e1]
    have key : a * (q.1.c * hgt q.2 d + lead l d) + b * (q.1.c * hgt q.2 e + lead l e) + c * (q.1.c * hgt q.2 f + lead l f) = q.1.c * (a * hgt q.2 d + b * hgt q.2 e + c * hgt q.2 f) + (a * lead l d + b * lead l e + c * lead l f) := by grind
    rw [key]
    have h1 := Int.mul_le_mul_of_nonneg_left hm.1 (show 0 ≤ q.1.c by omega)
    refine ⟨by omega, ?_⟩
    rintro ⟨q2, hq2, hx⟩
    rcases List.mem_cons.mp hq2 with rfl | hq2
    · have h2 := Int.mul_lt_mul_of_pos_left (hm.2 hx) hq.1
      omega
    · have := ih.2 ⟨q2, hq2, hx⟩
      omega
/-- the room, for any direction -/
def rm (P : Int) (l : List (Kd × Row)) (dp : Pt) (d : Pt) : Int := P * lead l d - along d dp
theorem rm_mix {P : Int} (hP : 0 < P) {a b c : Int} (ha : 0 ≤ a) (hb : 0 ≤ b) (hc : 0 ≤ c) (d e f dp : Pt) {l : List (Kd × Row)} (h : ∀ q ∈ l, 0 < q.1.c ∧ q.2 ≠ []) (hs : ∃ q ∈ l, ∀ x ∈ q.2, 0 < lack a b c d e f q.2 x.2) : rm P l dp (mix a b c d e f) < a * rm P l dp d + b * rm P l dp e + c * rm P l dp f := by
  have h1 := Int.mul_lt_mul_of_pos_left ((lead_mix ha hb hc d e f h).2 hs) hP
  unfold rm
  rw [along_mix]
  have key : a * (P * lead l d - along d dp) + b * (P * lead l e - along e dp) + c * (P * lead l f - along f dp) = P * (a * lead l d + b * lead l e + c * lead l f) - (a * along d dp + b * along e dp + c * along f dp) := by grind
  rw [key]
  omega
/-- a direction so many times -/
def tim (s : Int) (d : Pt) : Pt := (s * d.1, s * d.2)
theorem along_tim (s : Int) (d p : Pt) : along (tim s d) p = s * along d p := by
  unfold along tim
  grind
theorem hgt_tim {s : Int} (hs : 0 ≤ s) (d : Pt) {r : Row} (hr : r ≠ []) : hgt r (tim s d) = s * hgt r d := by
  obtain ⟨x, hx, hm⟩ := hgt_at hr d
  obtain ⟨y, hy, hn⟩ := hgt_at hr (tim s d)
  rw [along_tim] at hn
  have h1 := hgt_ge (d := tim s d) hx
  rw [along_tim, hm] at h1
  have h2 := Int.mul_le_mul_of_nonneg_left (hgt_ge (d := d) hy) hs
  omega
theorem rm_tim {s : Int} (hs : 0 ≤ s) (P : Int) (d dp : Pt) {l : List (Kd × Row)} (h : ∀ q ∈ l, 0 < q.1.c ∧ q.2 ≠ []) : rm P l dp (tim s d) = s * rm P l dp d := by
  have hl : lead l (tim s d) = s * lead l d := by
    clear P dp
    induction l with
    | nil => simp [lead]
    | cons q l ih =>
      have e1 : ∀ y, lead (q :: l) y = q.1.c * hgt q.2 y + lead l y := fun y => by simp [lead]
      rw [e1, e1, hgt_tim hs d (h q (List.mem_cons_self ..)).2, ih fun x hx => h x (List.mem_cons_of_mem _ hx), Int.mul_add, Int.mul_left_comm]
  unfold rm
  rw [hl, along_tim, Int.mul_sub, Int.mul_left_comm]
/-- the normal to two points -/
def nrm (a b : Pt) : Pt := (a.2 - b.2, b.1 - a.1)
theorem nrm_in {rows : List Row} {r : Row} (hr : r ∈ rows) {a b : Nat × Pt} (ha : a ∈ r) (hb : b ∈ r) (h : a.2 ≠ b.2) : nrm a.2 b.2 ∈ dirs rows := by
  unfold dirs
  refine List.mem_append.mpr (.inr (List.mem_flatten.mpr ⟨_, List.mem_map.mpr ⟨r, hr, rfl⟩, List.mem_flatten.mpr ⟨_, List.mem_map.mpr ⟨a, ha, rfl⟩, ?_⟩⟩))
  exact List.mem_map.mpr ⟨b, List.mem_filter.mpr ⟨hb, by simpa using h⟩, rfl⟩
theorem mul_self_nn (x : Int) : 0 ≤ x * x := by
  rcases Int.le_total 0 x with h | h
  · exact Int.mul_nonneg h h
  · exact Int.mul_nonneg_of_nonpos_of_nonpos h h
theorem mul_self_pos {x : Int} (h : x ≠ 0) : 0 < x * x := by
  have h1 := mul_self_nn x
  have h2 : x * x ≠ 0 := Int.mul_ne_zero h h
  omega
/-- two directions without room share a point of each kind -/
theorem share2 {P : Int} (hP : 0 < P) {l : List (Kd × Row)} (h : ∀ q ∈ l, 0 < q.1.c ∧ q.2 ≠ []) {dp : Pt} (hn : ∀ q ∈ l, ∀ a ∈ q.2, ∀ b ∈ q.2, a.2 ≠ b.2 → 0 ≤ rm P l dp (nrm a.2 b.2)) {d e : Pt} (hd : rm P l dp d = 0) (he : rm P l dp e = 0) {q : Kd × Row} (hq : q ∈ l) : ∃ x ∈ q.2, along d x.2 = hgt q.2 d ∧ along e x.2 = hgt q.2 e := by
  by_cases hc : ∃ x ∈ q.2, along d x.2 = hgt q.2 d ∧ along e x.2 = hgt q.2 e
  · exact hc
  · have no : ∀ x ∈ q.2, along d x.2 = hgt q.2 d → along e x.2 ≠ hgt q.2 e := fun x hx h1 h2 => hc ⟨x, hx, h1, h2⟩
    exfalso
    obtain ⟨p, hp, hpd⟩ := hgt_at (h q hq).2 d
    obtain ⟨t, ht, hte⟩ := hgt_at (h q hq).2 e
    have p1 := no p hp hpd
    have p2 := hgt_ge (d := e) hp
    have t1 : along d t.2 ≠ hgt q.2 d := fun z => no t ht z hte
    have t2 := hgt_ge (d := d) ht
    -- the two weights
    have hb : 0 < along d p.2 - along d t.2 := by omega
    have ha : 0 < along e t.2 - along e p.2 := by omega
    generalize hA : along e t.2 - along e p.2 = A at ha
    generalize hB : along d p.2 - along d t.2 = B at hb
    have hneg : rm P l dp (mix A B 0 d e d) < 0 := by
      have := rm_mix hP (Int.le_of_lt ha) (Int.le_of_lt hb) (Int.le_refl 0) d e d dp h ⟨q, hq, fun x hx => ?_⟩
      · rw [hd, he] at this
        omega
      · have x1 := hgt_ge (d := d) hx
        have x2 := hgt_ge (d := e) hx
        have x3 := no x hx
        unfold lack
        rw [Int.zero_mul, Int.add_zero]
        by_cases hz : along d x.2 = hgt q.2 d
        · have := Int.mul_pos hb (show 0 < hgt q.2 e - along e x.2 by have := x3 hz; omega)
          have := Int.mul_nonneg (Int.le_of_lt ha) (show 0 ≤ hgt q.2 d - along d x.2 by omega)
          omega
        · have := Int.mul_pos ha (show 0 < hgt q.2 d - along d x.2 by omega)
          have := Int.mul_nonneg (Int.le_of_lt hb) (show 0 ≤ hgt q.2 e - along e x.2 by omega)
          omega
    have hpt : p.2 ≠ t.2 := fun z => by
      rw [z] at hpd
      exact t1 hpd
    have m1 := hn q hq p hp t ht hpt
    have m2 := hn q hq t ht p hp (fun z => hpt z.symm)
    obtain ⟨pi, p1', p2'⟩ := p
    obtain ⟨ti, t1', t2'⟩ := t
    simp only at hA hB hpt m1 m2
    have hw : (p1' - t1') * (p1' - t1') + (p2' - t2') * (p2' - t2') > 0 := by
      have a1 := mul_self_nn (p1' - t1')
      have a2 := mul_self_nn (p2' - t2')
      have : p1' - t1' ≠ 0 ∨ p2' - t2' ≠ 0 := by
        by_cases z : p1' - t1' = 0
        · refine .inr fun z2 => hpt ?_
          exact Prod.ext (show p1' = t1' by omega) (show p2' = t2' by omega)
        · exact .inl z
      rcases this with z | z
      · have := mul_self_pos z
        omega
      · have := mul_self_pos z
        omega
    -- the sum is a normal
    generalize hS : (p1' - t1') * (p1' - t1') + (p2' - t2') * (p2' - t2') = S at hw
    generalize hs : (mix A B 0 d e d).1 * (p2' - t2') - (mix A B 0 d e d).2 * (p1' - t1') = s
    have hperp : along (mix A B 0 d e d) (p1', p2') = along (mix A B 0 d e d) (t1', t2') := by
      rw [along_mix, along_mix, ← hA, ← hB]
      grind
    have hSn : tim S (mix A B 0 d e d) = tim s (nrm (p1', p2') (t1', t2')) := by
      generalize mix A B 0 d e d = n at hperp hs
      unfold along at hperp
      unfold tim nrm
      subst hS hs
      refine Prod.ext ?_ ?_
      · simp only
        grind
      · simp only
        grind
    have hS2 := rm_tim (Int.le_of_lt hw) P (mix A B 0 d e d) dp h
    have hneg2 : rm P l dp (tim S (mix A B 0 d e d)) < 0 := by
      rw [hS2]
      have := Int.mul_lt_mul_of_pos_left hneg hw
      omega
    rw [hSn] at hneg2
    by_cases h0 : 0 ≤ s
    · rw [rm_tim h0 P _ dp h] at hneg2
      have := Int.mul_nonneg h0 m1
      omega
    · have e2 : tim s (nrm (p1', p2') (t1', t2')) = tim (-s) (nrm (t1', t2') (p1', p2')) := by
        unfold tim nrm
        refine Prod.ext ?_ ?_
        · simp only
          grind
        · simp only
          grind
      rw [e2, rm_tim (show 0 ≤ -s by omega) P _ dp h] at hneg2
      have := Int.mul_nonneg (show 0 ≤ -s by omega) m2
      omega
end K11

/-! all directions without room share a point of each kind; so takers' rows are not empty. -/
namespace K11
open PySem PySem.Spec PyProof.Rows L2 Z ZE
theorem tri_zero {d e f a b c : Pt} (h1 : along d b = along d a) (h2 : along d c < along d a) (h3 : along e c = along e b) (h4 : along e a < along e b) (h5 : along f c = along f a) (h6 : along f b < along f a) : mix ((along e b - along e a) * (along f a - along f b)) ((along d a - along d c) * (along f a - along f b)) ((along d a - along d c) * (along e b - along e a)) d e f = (0, 0) := by
  have p1 : along d a - along d c ≠ 0 := by omega
  have p2 : along e b - along e a ≠ 0 := by omega
  generalize hn : mix ((along e b - along e a) * (along f a - along f b)) ((along d a - along d c) * (along f a - along f b)) ((along d a - along d c) * (along e b - along e a)) d e f = n
  have na : along n b = along n a := by
    rw [← hn, along_mix, along_mix, h1]
    grind
  have nc : along n c = along n a := by
    rw [← hn, along_mix, along_mix, h3, h5]
    grind
  clear hn
  obtain ⟨n1, n2⟩ := n
  obtain ⟨a1, a2⟩ := a
  obtain ⟨b1, b2⟩ := b
  obtain ⟨c1, c2⟩ := c
  obtain ⟨d1, d2⟩ := d
  obtain ⟨e1, e2⟩ := e
  unfold along at *
  simp only at *
  generalize hu1 : b1 - a1 = u1
  generalize hu2 : b2 - a2 = u2
  generalize hv1 : c1 - a1 = v1
  generalize hv2 : c2 - a2 = v2
  have q1 : n1 * u1 + n2 * u2 = 0 := by subst hu1 hu2; grind
  have q2 : n1 * v1 + n2 * v2 = 0 := by subst hv1 hv2; grind
  have q3 : d1 * u1 + d2 * u2 = 0 := by subst hu1 hu2; grind
  have q4 : d1 * v1 + d2 * v2 ≠ 0 := by subst hv1 hv2; intro z; apply p1; grind
  have q5 : e1 * u1 + e2 * u2 ≠ 0 := by subst hu1 hu2; intro z; apply p2; grind
  have hdet : u1 * v2 - u2 * v1 ≠ 0 := by
    intro z
    have z1 : u1 * (d1 * v1 + d2 * v2) = 0 := by
      have : u1 * (d1 * v1 + d2 * v2) = v1 * (d1 * u1 + d2 * u2) + d2 * (u1 * v2 - u2 * v1) := by grind
      rw [this, q3, z]
      simp
    have z2 : u2 * (d1 * v1 + d2 * v2) = 0 := by
      have : u2 * (d1 * v1 + d2 * v2) = v2 * (d1 * u1 + d2 * u2) - d1 * (u1 * v2 - u2 * v1) := by grind
      rw [this, q3, z]
      simp
    have w1 : u1 = 0 := (Int.mul_eq_zero.mp z1).resolve_right q4
    have w2 : u2 = 0 := (Int.mul_eq_zero.mp z2).resolve_right q4
    apply q5
    rw [w1, w2]
    simp
  have r1 : n1 * (u1 * v2 - u2 * v1) = 0 := by
    have : n1 * (u1 * v2 - u2 * v1) = v2 * (n1 * u1 + n2 * u2) - u2 * (n1 * v1 + n2 * v2) := by grind
    rw [this, q1, q2]
    simp
  have r2 : n2 * (u1 * v2 - u2 * v1) = 0 := by
    have : n2 * (u1 * v2 - u2 * v1) = u1 * (n1 * v1 + n2 * v2) - v1 * (n1 * u1 + n2 * u2) := by grind
    rw [this, q1, q2]
    simp
  rw [(Int.mul_eq_zero.mp r1).resolve_right hdet, (Int.mul_eq_zero.mp r2).resolve_right hdet]
/-- all directions without room share a point of each kind -/
theorem share_all {P : Int} (hP : 0 < P) {l : List (Kd × Row)} (h : ∀ q ∈ l, 0 < q.1.c ∧ q.2 ≠ []) {dp : Pt} (hn : ∀ q ∈ l, ∀ a ∈ q.2, ∀ b ∈ q.2, a.2 ≠ b.2 → 0 ≤ rm P l dp (nrm a.2 b.2)) {zs : List Pt} (hz : ∀ d ∈ zs, rm P l dp d = 0) {q : Kd × Row} (hq : q ∈ l) (h3 : q.2.length ≤ 3) : ∃ x ∈ q.2, ∀ d ∈ zs, along d x.2 = hgt q.2 d := by
  by_cases hc : ∃ x ∈ q.2, ∀ d ∈ zs, along d x.2 = hgt q.2 d
  · exact hc
  exfalso
  have no : ∀ x ∈ q.2, ∃ d ∈ zs, along d x.2 ≠ hgt q.2 d := fun x hx => by
    by_cases z : ∃ d ∈ zs, along d x.2 ≠ hgt q.2 d
    · exact z
    · refine absurd ⟨x, hx, fun d hd => ?_⟩ hc
      by_cases e : along d x.2 = hgt q.2 d
      · exact e
      · exact absurd ⟨d, hd, e⟩ z
  have two : ∀ d ∈ zs, ∀ e ∈ zs, ∃ x ∈ q.2, along d x.2 = hgt q.2 d ∧ along e x.2 = hgt q.2 e := fun d hd e he => share2 hP h hn (hz d hd) (hz e he) hq
  have hne := (h q hq).2
  have ge : ∀ (d : Pt) (x : Nat × Pt), x ∈ q.2 → along d x.2 ≤ hgt q.2 d := fun d x hx => hgt_ge hx
  have hmix : ∀ (a b c : Int) (d e f : Pt), 0 ≤ a → 0 ≤ b → 0 ≤ c → d ∈ zs → e ∈ zs → f ∈ zs → (∀ x ∈ q.2, 0 < lack a b c d e f q.2 x.2) → mix a b c d e f ≠ (0, 0) := by
    intro a b c d e f ha hb hc hd he hf hl z
    have := rm_mix hP ha hb hc d e f dp h ⟨q, hq, hl⟩
    rw [z, hz d hd, hz e he, hz f hf] at this
    have h0 := rm_tim (Int.le_refl 0) P (0, 0) dp h
    have e0 : tim 0 (0, 0) = (0, 0) := rfl
    rw [e0, Int.zero_mul] at h0
    omega
  unfold lack at hmix
  generalize hgt q.2 = M at no two ge hmix
  generalize q.2 = r at *
  match r, h3, hne with
  | [a], _, _ =>
    obtain ⟨d, hd, hda⟩ := no a (by simp)
    obtain ⟨x, hx, h1, _⟩ := two d hd d hd
    rw [List.mem_singleton.mp hx] at h1
    exact hda h1
  | [a, b], _, _ =>
    obtain ⟨d, hd, hda⟩ := no a (by simp)
    obtain ⟨e, he, heb⟩ := no b (by simp)
    obtain ⟨x, hx, h1, h2⟩ := two d hd e he
    simp only [List.mem_cons, List.not_mem_nil, or_false] at hx
    rcases hx with rfl | rfl
    · exact hda h1
    · exact heb h2
  | [a, b, c], _, _ =>
    obtain ⟨d, hd, hdc⟩ := no c (by simp)
    obtain ⟨e, he, hea⟩ := no a (by simp)
    obtain ⟨f, hf, hfb⟩ := no b (by simp)
    have de : along d b.2 = M d ∧ along e b.2 = M e := by
      obtain ⟨x, hx, h1, h2⟩ := two d hd e he
      simp only [List.mem_cons, List.not_mem_nil, or_false] at hx
      rcases hx with rfl | rfl | rfl
      · exact absurd h2 hea
      · exact ⟨h1, h2⟩
      · exact absurd h1 hdc
    have df : along d a.2 = M d ∧ along f a.2 = M f := by
      obtain ⟨x, hx, h1, h2⟩ := two d hd f hf
      simp only [List.mem_cons, List.not_mem_nil, or_false] at hx
      rcases hx with rfl | rfl | rfl
      · exact ⟨h1, h2⟩
      · exact absurd h2 hfb
      · exact absurd h1 hdc
    have ef : along e c.2 = M e ∧ along f c.2 = M f := by
      obtain ⟨x, hx, h1, h2⟩ := two e he f hf
      simp only [List.mem_cons, List.not_mem_nil, or_false] at hx
      rcases hx with rfl | rfl | rfl
      · exact absurd h1 hea
      · exact absurd h2 hfb
      · exact ⟨h1, h2⟩
    have g1 := ge d c (by simp)
    have g2 := ge e a (by simp)
    have g3 := ge f b (by simp)
    have k1 : 0 < along d a.2 - along d c.2 := by omega
    have k2 : 0 < along e b.2 - along e a.2 := by omega
    have k3 : 0 < along f a.2 - along f b.2 := by omega
    have t := tri_zero (d := d) (e := e) (f := f) (a := a.2) (b := b.2) (c := c.2) (by omega) (by omega) (by omega) (by omega) (by omega) (by omega)
    have m1 := Int.mul_pos k2 k3
    have m2 := Int.mul_pos k1 k3
    have m3 := Int.mul_pos k1 k2
    refine hmix _ _ _ d e f (Int.le_of_lt m1) (Int.le_of_lt m2) (Int.le_of_lt m3) hd he hf (fun x hx => ?_) t
    generalize (along e b.2 - along e a.2) * (along f a.2 - along f b.2) = A at m1
    generalize (along d a.2 - along d c.2) * (along f a.2 - along f b.2) = B at m2
    generalize (along d a.2 - along d c.2) * (along e b.2 - along e a.2) = C at m3
    simp only [List.mem_cons, List.not_mem_nil, or_false] at hx
    rcases hx with rfl | rfl | rfl
    · have y1 : M d - along d x.2 = 0 := by omega
      have y3 : M f - along f x.2 = 0 := by omega
      have y2 := Int.mul_pos m2 (show 0 < M e - along e x.2 by omega)
      rw [y1, y3]
      omega
    · have y1 : M d - along d x.2 = 0 := by omega
      have y2 : M e - along e x.2 = 0 := by omega
      have y3 := Int.mul_pos m3 (show 0 < M f - along f x.2 by omega)
      rw [y1, y2]
      omega
    · have y2 : M e - along e x.2 = 0 := by omega
      have y3 : M f - along f x.2 = 0 := by omega
      have y1 := Int.mul_pos m1 (show 0 < M d - along d x.2 by omega)
      rw [y2, y3]
      omega
end K11

/-! the takers' rows are as they must be. -/
namespace K11
open PySem PySem.Spec PyProof.Rows L2 Z ZE
theorem room_rm (o : Od) (rows : List Row) (d : Pt) : roomM o (farM rows d) d = rm o.P (o.ks.zip rows) o.dp d := by
  unfold roomM rm lead farM
  have : (o.ks.zip (rows.map fun r => maxI (r.map fun e => along d e.2))).map (fun q => q.1.c * q.2) = (o.ks.zip rows).map fun q => q.1.c * hgt q.2 d := by
    rw [List.zip_map_right, List.map_map]
    rfl
  rw [this]
theorem zip_self_map {α β γ : Type} (f : α → β) (g : α → γ) : ∀ l : List α, (l.map f).zip (l.map g) = l.map fun x => (f x, g x)
  | [] => rfl
  | x :: l => by
    rw [List.map_cons, List.map_cons, List.zip_cons_cons, zip_self_map f g l]
    rfl
theorem tk_loop (o : Od) : ∀ (ds : List Pt) (p : Row → Nat × Pt → Bool), tkLoop (ds.map (sideM o)) ((ptsO o).map fun r => r.filter (p r)) ≠ [] → (∀ d ∈ ds, 0 ≤ rm o.P (o.ks.zip (ptsO o)) o.dp d) ∧ tkLoop (ds.map (sideM o)) ((ptsO o).map fun r => r.filter (p r)) = (ptsO o).map fun r => r.filter fun e => p r e && (ds.filter fun d => decide (rm o.P (o.ks.zip (ptsO o)) o.dp d = 0)).all fun d => decide (along d e.2 = hgt r d)
  | [], p, _ => ⟨fun d hd => absurd hd (by simp), by simp [tkLoop]⟩
  | d :: ds, p, h => by
    have hr : (sideM o d).2.2 = rm o.P (o.ks.zip (ptsO o)) o.dp d := room_rm o (ptsO o) d
    rw [List.map_cons] at h ⊢
    unfold tkLoop at h ⊢
    rw [hr] at h ⊢
    split at h
    · exact absurd rfl h
    · rename_i h0
      rw [if_neg h0]
      split at h
      · rename_i hz
        rw [if_pos hz]
        have hk : (((ptsO o).map fun r => r.filter (p r)).zip (sideM o d).2.1).map (fun q => reaching q.1 (sideM o d).1 q.2) = (ptsO o).map fun r => r.filter fun e => p r e && decide (along d e.2 = hgt r d) := by
          show ((((ptsO o).map fun r => r.filter (p r)).zip (farM (ptsO o) d)).map fun q => reaching q.1 d q.2) = _
          unfold farM
          rw [zip_self_map, List.map_map]
          refine List.map_congr_left fun r _ => ?_
          show (r.filter (p r)).filter _ = _
          rw [List.filter_filter]
          refine List.filter_congr fun e _ => ?_
          rw [Bool.and_comm]
          rfl
        rw [hk] at h ⊢
        have ih := tk_loop o ds (fun r e => p r e && decide (along d e.2 = hgt r d)) h
        refine ⟨fun x hx => ?_, ?_⟩
        · rcases List.mem_cons.mp hx with rfl | hx
          · omega
          · exact ih.1 x hx
        · rw [ih.2]
          refine List.map_congr_left fun r _ => List.filter_congr fun e _ => ?_
          rw [List.filter_cons, if_pos (decide_eq_true hz), List.all_cons, Bool.and_assoc]
      · rename_i hz
        rw [if_neg hz]
        have ih := tk_loop o ds p h
        refine ⟨fun x hx => ?_, ?_⟩
        · rcases List.mem_cons.mp hx with rfl | hx
          · omega
          · exact ih.1 x hx
        · rw [ih.2]
          refine List.map_congr_left fun r _ => List.filter_congr fun e _ => ?_
          rw [List.filter_cons, if_neg (by simpa using hz)]
theorem tkr_rowOk (o : Od) (k : Kd) : ((ptsK o k).map (·.1)).Nodup ∧ ∀ el ∈ ptsK o k, el.1 < o.np := by
  unfold ptsK tkr
  have hsub : ((o.ps.zipIdx.filter fun q => !decide (k.n ∈ q.1.r)).map fun q => (q.2, ptAt o k q.2)).map (·.1) = (o.ps.zipIdx.filter fun q => !decide (k.n ∈ q.1.r)).map (·.2) := by
    rw [List.map_map]
    rfl
  refine ⟨?_, fun el hel => ?_⟩
  · rw [hsub]
    have hs : ((o.ps.zipIdx.filter fun q => !decide (k.n ∈ q.1.r)).map (·.2)).Sublist (o.ps.zipIdx.map (·.2)) := List.filter_sublist.map _
    refine hs.nodup ?_
    rw [show (o.ps.zipIdx.map (·.2)) = List.range' 0 o.ps.length from by simp [List.zipIdx_map_snd]]
    exact List.nodup_range'
  · obtain ⟨q, hq, rfl⟩ := List.mem_map.mp hel
    have hq2 := (List.mem_filter.mp hq).1
    have := List.mem_zipIdx hq2
    show q.2 < o.ps.length
    omega
/-- what takers tells is as it must be -/
theorem tk_ok {o : Od} (ho : o.ok) : TkOk o := by
  intro h
  unfold takersM at h
  split at h
  · exact absurd rfl h
  rename_i hn
  have hlen := pts_len ho
  have hin := pts_in ho
  have h0 : (ptsO o) = (ptsO o).map fun r => r.filter fun _ => true := by
    have : ∀ r : Row, r.filter (fun _ => true) = r := fun r => List.filter_eq_self.mpr fun _ _ => rfl
    simp [this]
  have hT : takersM o = tkLoop (sidesM o) (ptsO o) := by
    unfold takersM
    rw [if_neg hn]
  have hl : tkLoop (sidesM o) (ptsO o) ≠ [] := h
  unfold sidesM at hl hT
  rw [h0] at hl
  have e1 : dirs ((ptsO o).map fun r => r.filter fun _ => true) = dirs (ptsO o) := by rw [← h0]
  rw [e1] at hl
  have hk := tk_loop o (dirs (ptsO o)) (fun _ _ => true) hl
  have hT2 : takersM o = (ptsO o).map fun r => r.filter fun e => true && ((dirs (ptsO o)).filter fun d => decide (rm o.P (o.ks.zip (ptsO o)) o.dp d = 0)).all fun d => decide (along d e.2 = hgt r d) := by
    rw [hT, ← hk.2, ← h0]
  have hq : ∀ q ∈ o.ks.zip (ptsO o), 0 < q.1.c ∧ q.2 ≠ [] := fun q hq => by
    have h1 := List.of_mem_zip hq
    have := (ho.k2 q.1 h1.1).c
    exact ⟨by omega, fun z => hn (z ▸ h1.2)⟩
  have hnr : ∀ q ∈ o.ks.zip (ptsO o), ∀ a ∈ q.2, ∀ b ∈ q.2, a.2 ≠ b.2 → 0 ≤ rm o.P (o.ks.zip (ptsO o)) o.dp (nrm a.2 b.2) := fun q hq a ha b hb hab => hk.1 _ (nrm_in (List.of_mem_zip hq).2 ha hb hab)
  have hsub : ∀ r ∈ takersM o, ∃ k r0, k ∈ o.ks ∧ r0 = ptsK o k ∧ r0 ∈ ptsO o ∧ r.Sublist r0 := fun r hr => by
    rw [hT2] at hr
    obtain ⟨r0, hr0, rfl⟩ := List.mem_map.mp hr
    obtain ⟨k, hk, hkr⟩ := List.mem_map.mp (show r0 ∈ o.ks.map (ptsK o) from hr0)
    exact ⟨k, r0, hk, hkr.symm, hr0, List.filter_sublist⟩
  have hlt : (takersM o).length = o.ks.length := by rw [hT2, List.length_map]; exact hlen.1
  refine ⟨⟨by rw [hlt]; exact ho.k1.2, fun r hr => ?_, fun r hr e he => ?_⟩, fun r hr => ?_, hlt⟩
  · obtain ⟨k, r0, _, _, hr0, hs⟩ := hsub r hr
    refine ⟨?_, Nat.le_trans hs.length_le (hlen.2.2 r0 hr0)⟩
    rw [hT2] at hr
    obtain ⟨r1, hr1, rfl⟩ := List.mem_map.mp hr
    obtain ⟨i, hi, he⟩ := List.mem_iff_getElem.mp hr1
    have hik : i < o.ks.length := by have := hlen.1; omega
    have hmz : (o.ks[i], r1) ∈ o.ks.zip (ptsO o) := by
      refine List.mem_iff_getElem?.mpr ⟨i, List.getElem?_zip_eq_some.mpr ⟨List.getElem?_eq_getElem hik, ?_⟩⟩
      rw [List.getElem?_eq_getElem hi, he]
    obtain ⟨x, hx, hxd⟩ := share_all (P_in ho).1 hq hnr (zs := (dirs (ptsO o)).filter fun d => decide (rm o.P (o.ks.zip (ptsO o)) o.dp d = 0)) (fun d hd => of_decide_eq_true (List.mem_filter.mp hd).2) hmz (hlen.2.2 r1 hr1)
    intro z
    have : x ∈ r1.filter fun e => true && ((dirs (ptsO o)).filter fun d => decide (rm o.P (o.ks.zip (ptsO o)) o.dp d = 0)).all fun d => decide (along d e.2 = hgt r1 d) := by
      refine List.mem_filter.mpr ⟨hx, ?_⟩
      rw [Bool.true_and, List.all_eq_true]
      exact fun d hd => decide_eq_true (hxd d hd)
    rw [z] at this
    cases this
  · obtain ⟨k, r0, _, _, hr0, hs⟩ := hsub r hr
    exact hin r0 hr0 e (hs.subset he)
  · obtain ⟨k, r0, _, hkr, hr0, hs⟩ := hsub r hr
    have ht := tkr_rowOk o k
    rw [← hkr] at ht
    exact ⟨(hs.map _).nodup ht.1, fun el hel => ht.2 el (hs.subset hel), fun el hel => hin r0 hr0 el (hs.subset hel)⟩
end K11

/-! data written down: what an expression of tuples, texts, whole numbers and names of data makes. -/
namespace K11
open PySem PySem.Spec PyProof.Rows L2 Z ZE
section
variable {K : PySem.W.Frag} {C CN CT : Addr} {σ : L2.St} {H0 : Hp}
/-- from H0 on, the expression makes this datum and changes nothing -/
def Mks (K : PySem.W.Frag) (H0 : Hp) (σ : L2.St) (t : TE) (d : D) : Prop := ∀ (H : Hp) (Q : VK), Ex H0 H → (∀ v H', Ex H H' → DT K H' v d → Q v H') → t σ H Q
def MksA (K : PySem.W.Frag) (H0 : Hp) (σ : L2.St) (t : TA) (ds : List D) : Prop := ∀ (H : Hp) (Q : List V → Hp → Prop), Ex H0 H → (∀ vs H', Ex H H' → DTs K H' vs ds → Q vs H') → t σ H Q
theorem bd_int (i : Int) : Mks K H0 σ (tC (.int i)) (.int i) := fun H Q _ k => k _ H .refl (.int i)
theorem bd_str (z : Str) : Mks K H0 σ (tC (.str z)) (.str z) := fun H Q _ k => k _ H .refl (.str z)
theorem bd_var {i : Nat} {v : V} {d : D} (h : σ[i]? = some (some v)) (hd : DT K H0 v d) : Mks K H0 σ (tVar i) d := fun H Q e k => ⟨v, h, k v H .refl (hd.mono e.any)⟩
theorem bda_nil : MksA K H0 σ tNil [] := fun H Q _ k => k [] H .refl .nil
theorem bda_cons {t : TE} {ts : TA} {d : D} {ds : List D} (h : Mks K H0 σ t d) (hs : MksA K H0 σ ts ds) : MksA K H0 σ (tCons t ts) (d :: ds) := fun H Q e k => h H _ e fun v H1 e1 d1 => hs H1 _ (e.trans e1) fun vs H2 e2 d2 => k _ H2 (e1.trans e2) (.cons (d1.mono e2.any) d2)
theorem bd_tup {ts : TA} {ds : List D} (h : MksA K H0 σ ts ds) (hl : ds.length ≤ 90000) : Mks K H0 σ (tTup ts) (.tup ds) := fun H Q e k => h H _ e fun vs H1 e1 d1 => ⟨Nat.le_of_lt (smallt (by have := d1.len; omega)), fun p np => k _ _ (e1.trans (.new np)) (.tup (sqT upd_same) (d1.mono (Gr.new (m := any) np)))⟩
theorem dts_strs {H : Hp} : ∀ {l : List Str} {xs : List V}, DTs K H xs (l.map D.str) → xs = l.map V.str
  | [], _, h => by
    cases h
    rfl
  | z :: l, _, h => by
    cases h with
    | cons h1 h2 =>
      cases h1
      rw [dts_strs h2]
      rfl
/-- an order's parts as data -/
def ordD (o : Od) : List D := [.tup (o.ms.map D.str), .tup (o.ks.map Kd.d), .tup (o.ps.map Pn.d)]
theorem mk_ord {ts : TA} {o : Od} {H : Hp} {Q : VK} {E : XK} (h : MksA K H σ ts (ordD o)) (ok : o.ok) (k : ∀ y H', Ex H H' → OrdAt K C H' y o → Q (.ref y) H') : tMake C (spInitO K C) [] E ts σ H Q := by
  refine h H _ .refl fun vs H1 e1 d1 y dx hy hd hne => ?_
  cases d1 with
  | cons m1 d2 =>
    cases d2 with
    | cons k1 d3 =>
      cases d3 with
      | cons p1 d4 =>
        cases d4
        obtain ⟨a, ax, rfl, Sa, sa⟩ := dtT m1
        obtain ⟨b, bx, rfl, Sb, sb⟩ := dtT k1
        obtain ⟨c, cx, rfl, Sc, sc⟩ := dtT p1
        obtain rfl := dts_strs sa
        have hP : PartsAt K H1 a b c o := ⟨Sa, ⟨bx, Sb, sb⟩, ⟨cx, Sc, sc⟩, ok⟩
        have e2 : Ex H1 (upd H1 dx (.own y)) := .new hd
        have e3 : Ex (upd H1 dx (.own y)) (upd (upd H1 dx (.own y)) y (.ins C dx [])) := .new (by rw [upd_ne hne.symm]; exact hy)
        have hP2 := hP.mono (e2.trans e3).any
        exact ⟨y, dx, a, b, c, o, rfl, upd_same, hP2, fun H' g h => ⟨rfl, k y H' (e1.trans (Gr.freshJ (e2.trans e3) hy g)) ⟨dx, a, b, c, h, hP2.mono g.any⟩⟩⟩
theorem seq_mk {t : TE} {i : Nat} {b : TS} {Dn : Ends} {H : Hp} {d : D} (h : Mks K H σ t d) (k : ∀ v H', Ex H H' → DT K H' v d → b Dn (σ.set i (some v)) H') : tSeq (tAsg t (gName i)) b Dn σ H := h H _ .refl k
theorem seq_ord {ts : TA} {i : Nat} {b : TS} {Dn : Ends} {o : Od} {H : Hp} {E : XK} (h : MksA K H σ ts (ordD o)) (ok : o.ok) (k : ∀ y H', Ex H H' → OrdAt K C H' y o → b Dn (σ.set i (some (.ref y))) H') : tSeq (tAsg (tMake C (spInitO K C) [] E ts) (gName i)) b Dn σ H := by
  unfold tSeq tAsg
  exact mk_ord (K := K) (C := C) h ok k
/-- a set made of generators -/
theorem mk_num {ts : TA} {ns : List Int} {H : Hp} {Q : VK} {E : XK} (h : MksA K H σ ts [.tup (ns.map D.int)]) (ok : okG ns) (k : ∀ y g H', Ex H H' → NumAt K CN H' y g → (∀ s, NM.Sg g s ↔ NM.Sg ns s) → Q (.ref y) H') : tMake CN (spInit K CN) [] E ts σ H Q := by
  refine h H _ .refl fun vs H1 e1 d1 y dx hy hd hne => ?_
  cases d1 with
  | cons m1 d2 =>
    cases d2
    obtain ⟨a, ax, rfl, Sa, sa⟩ := dtT m1
    obtain rfl := dtsIntsInv sa
    have e2 : Ex H1 (upd H1 dx (.own y)) := .new hd
    have e3 : Ex (upd H1 dx (.own y)) (upd (upd H1 dx (.own y)) y (.ins CN dx [])) := .new (by rw [upd_ne hne.symm]; exact hy)
    exact ⟨y, dx, a, ns, rfl, upd_same, (e2.trans e3).seqT Sa, ok, fun g H' e hN _ hs => ⟨rfl, k y g H' (e1.trans (Gr.freshJ (e2.trans e3) hy e)) hN hs⟩⟩
/-- two sets with the same sums -/
theorem same_num {x y : Addr} {g k : List Int} {H : Hp} {neg : Bool} {Q : VK} (h1 : NumAt K CN H x g) (h2 : NumAt K CN H y k) (hs : ∀ s, NM.Sg g s ↔ NM.Sg k s) (q : Q (.bl (true != neg)) H) : rEqO CN (spEq K CN) neg (.ref x) (.ref y) H Q := by
  obtain ⟨⟨dx, a, b, L, m1, _⟩, l1, _⟩ := id h1
  obtain ⟨⟨dy, a', b', L', m1', _⟩, l2, _⟩ := id h2
  refine ⟨x, dx, _, y, dy, _, rfl, rfl, m1, m1', x, y, g, k, rfl, h1, h2, _, rfl, ?_⟩
  rw [decide_eq_true (NM.Least.ext l1 l2 hs)]
  exact q
/-- multiples of one number make no more -/
theorem sg_one {a : Int} {l : List Int} (ha : a ∈ l) (hl : ∀ x ∈ l, ∃ n : Nat, x = n * a) (s : Int) : NM.Sg l s ↔ NM.Sg [a] s := by
  constructor
  · intro h
    induction h with
    | zero => exact .zero
    | @add x s hx _ ih =>
      obtain ⟨n, rfl⟩ := hl x hx
      clear hx
      induction n with
      | zero =>
        rw [show ((0 : Nat) : Int) * a + s = s by simp]
        exact ih
      | succ n ih2 =>
        have e : ((n + 1 : Nat) : Int) * a + s = a + ((n : Int) * a + s) := by
          rw [Int.natCast_add, Int.add_mul]
          omega
        rw [e]
        exact .add (List.mem_singleton.mpr rfl) ih2
  · intro h
    induction h with
    | zero => exact .zero
    | @add x s hx _ ih =>
      rw [List.mem_singleton.mp hx]
      exact .add ha ih
/-- what an order's set tells -/
theorem poss_tell {x : Addr} {o : Od} {H : Hp} {Q : VK} {E : XK} {l : List Int} (O : OrdAt K C H x o) (hl : possM o (takersM o) = some l) (k : ∀ z g H', Ex H H' → NumAt K CN H' z g → (∀ s, NM.Sg g s ↔ NM.Sg l s) → Q (.ref z) H') : spPossible K C CN CT [.ref x] H Q E := by
  refine ⟨x, o, rfl, O, tk_ok O.ok, fun h => ?_, fun l' z g H' h1 e _ hN hs => ?_⟩
  · rw [hl] at h
    cases h
  · rw [hl] at h1
    cases h1
    exact k z g H' e hN hs
/-- from H0 on, the test says no, the value is True -/
def No (H0 : Hp) (σ : L2.St) (c : L2.TT) : Prop := ∀ (H : Hp) (F : Bool → Hp → Prop), Ex H0 H → (∀ H', Ex H H' → F false H') → c σ H F
def Yes (H0 : Hp) (σ : L2.St) (t : TE) : Prop := ∀ (H : Hp) (Q : VK), Ex H0 H → (∀ H', Ex H H' → Q (.bl true) H') → t σ H Q
theorem seq_no {c : L2.TT} {t b : TS} {Dn : Ends} {H : Hp} (h : No H σ c) (k : ∀ H', Ex H H' → b Dn σ H') : tSeq (tIfS c t tNext) b Dn σ H := by
  unfold tSeq tIfS
  exact h H _ .refl fun H' e => iteF (k H' e)
theorem no_or {c d : L2.TT} (h : No H0 σ c) (k : No H0 σ d) : No H0 σ (tOr c d) := fun H F e q => by
  unfold tOr
  exact h H _ e fun H1 e1 => iteF (k H1 _ (e.trans e1) fun H2 e2 => q H2 (e1.trans e2))
theorem yes_and {s t : TE} (h : Yes H0 σ s) (k : Yes H0 σ t) : Yes H0 σ (tAndV s t) := fun H Q e q => by
  unfold tAndV
  exact h H _ e fun H1 e1 => ⟨true, rfl, iteT (k H1 _ (e.trans e1) fun H2 e2 => q H2 (e1.trans e2))⟩
theorem poss_op {neg : Bool} {i : Nat} {y : Addr} {o : Od} {l ns : List Int} {ts : TA} {H : Hp} {Q : VK} {E E2 : XK} (hi : σ[i]? = some (some (.ref y))) (O : OrdAt K C H0 y o) (hl : possM o (takersM o) = some l) (hs : ∀ s, NM.Sg l s ↔ NM.Sg ns s) (hok : okG ns) (hm : MksA K H0 σ ts [.tup (ns.map D.int)]) (e : Ex H0 H) (k : ∀ H', Ex H H' → Q (.bl (true != neg)) H') : tOp (rEqO CN (spEq K CN) neg) (tCall (spPossible K C CN CT) [] E (tCons (tVar i) tNil)) (tMake CN (spInit K CN) [] E2 ts) σ H Q := by
  have hm' : ∀ {H1 : Hp}, Ex H0 H1 → MksA K H1 σ ts [.tup (ns.map D.int)] := fun e1 H2 Q2 e2 k2 => hm H2 Q2 (e1.trans e2) k2
  unfold tOp tCall
  show tCons (tVar i) tNil σ H _
  unfold tCons tNil
  refine ⟨_, hi, poss_tell (O.up e id) hl fun z g H1 e1 N1 h1 => ?_⟩
  refine mk_num (hm' (e.trans e1)) hok fun z' g' H2 e2 N2 h2 => ?_
  exact same_num (N1.mono e2 id) N2 (fun s => (h1 s).trans ((hs s).trans (h2 s).symm)) (k H2 (e1.trans e2))
theorem poss_no {i : Nat} {y : Addr} {o : Od} {l ns : List Int} {ts : TA} {E E2 : XK} (hi : σ[i]? = some (some (.ref y))) (O : OrdAt K C H0 y o) (hl : possM o (takersM o) = some l) (hs : ∀ s, NM.Sg l s ↔ NM.Sg ns s) (hok : okG ns) (hm : MksA K H0 σ ts [.tup (ns.map D.int)]) : No H0 σ (tTest (tOp (rEqO CN (spEq K CN) true) (tCall (spPossible K C CN CT) [] E (tCons (tVar i) tNil)) (tMake CN (spInit K CN) [] E2 ts))) := fun H F e q => poss_op hi O hl hs hok hm e fun H1 e1 => ⟨_, rfl, q H1 e1⟩
theorem poss_yes {i : Nat} {y : Addr} {o : Od} {l ns : List Int} {ts : TA} {E E2 : XK} (hi : σ[i]? = some (some (.ref y))) (O : OrdAt K C H0 y o) (hl : possM o (takersM o) = some l) (hs : ∀ s, NM.Sg l s ↔ NM.Sg ns s) (hok : okG ns) (hm : MksA K H0 σ ts [.tup (ns.map D.int)]) : Yes H0 σ (tOp (rEqO CN (spEq K CN) false) (tCall (spPossible K C CN CT) [] E (tCons (tVar i) tNil)) (tMake CN (spInit K CN) [] E2 ts)) := fun H Q e q => poss_op hi O hl hs hok hm e fun H1 e1 => q H1 e1
end
end K11

/-! known orders, as data; what is known of them is worked out by the kernel. -/
namespace K11
open PySem PySem.Spec PyProof.Rows L2 Z ZE
/-- n is a sum of members of g, looked for -/
def sgF : Nat → List Int → Int → Bool
  | 0, _, n => decide (n = 0)
  | f + 1, g, n => decide (n = 0) || g.any fun a => decide (0 < a) && decide (a ≤ n) && sgF f g (n - a)
theorem sgF_sg : ∀ (f : Nat) (g : List Int) (n : Int), sgF f g n = true → NM.Sg g n
  | 0, g, n, h => by
    have : n = 0 := of_decide_eq_true h
    rw [this]
    exact .zero
  | f + 1, g, n, h => by
    unfold sgF at h
    rcases Bool.or_eq_true_iff.mp h with h | h
    · rw [of_decide_eq_true h]
      exact .zero
    · obtain ⟨a, ha, hb⟩ := List.any_eq_true.mp h
      have h3 := sgF_sg f g (n - a) (Bool.and_eq_true_iff.mp hb).2
      have := NM.Sg.add ha h3
      rwa [show a + (n - a) = n by omega] at this
theorem sg_trans {l g : List Int} (h : ∀ x ∈ l, NM.Sg g x) {s : Int} (hs : NM.Sg l s) : NM.Sg g s := by
  induction hs with
  | zero => exact .zero
  | @add x s hx _ ih =>
    have key : ∀ {y : Int}, NM.Sg g y → NM.Sg g (y + s) := fun {y} hy => by
      induction hy with
      | zero =>
        rw [Int.zero_add]
        exact ih
      | @add a t ha _ ih2 =>
        rw [Int.add_assoc]
        exact .add ha ih2
    exact key (h x hx)
/-- these numbers and those make the same -/
def sameB (l g : List Int) : Bool := (l.all fun x => sgF 12 g x) && (g.all fun x => sgF 12 l x)
theorem same_sg {l g : List Int} (h : sameB l g = true) (s : Int) : NM.Sg l s ↔ NM.Sg g s := by
  obtain ⟨h1, h2⟩ := Bool.and_eq_true_iff.mp h
  exact ⟨sg_trans fun x hx => sgF_sg 12 g x (List.all_eq_true.mp h1 x hx), sg_trans fun x hx => sgF_sg 12 l x (List.all_eq_true.mp h2 x hx)⟩
def odB (o : Od) : Bool := decide ((1 ≤ o.ms.length ∧ o.ms.length ≤ 2) ∧ (∀ s ∈ o.ms, nameOk s = true) ∧ o.ms.Nodup ∧ (1 ≤ o.ks.length ∧ o.ks.length ≤ 4) ∧ (∀ k ∈ o.ks, nameOk k.n = true ∧ (1 ≤ k.c ∧ k.c ≤ 3) ∧ k.w.length = o.ms.length ∧ ∀ x ∈ k.w, 0 ≤ x ∧ x ≤ 6) ∧ (o.ks.map Kd.n).Nodup ∧ (2 ≤ o.ps.length ∧ o.ps.length ≤ 3) ∧ (o.ms.length = 2 → o.ps.length = 2) ∧ (∀ p ∈ o.ps, nameOk p.n = true ∧ (1 ≤ p.s ∧ p.s ≤ 3) ∧ p.r = (o.ks.map Kd.n).filter fun k => decide (k ∈ p.r)) ∧ (o.ps.map Pn.n).Nodup)
theorem odB_ok {o : Od} (h : odB o = true) : o.ok := by
  obtain ⟨h1, h2, h3, h4, h5, h6, h7, h8, h9, h10⟩ := of_decide_eq_true h
  exact ⟨h1, h2, h3, h4, fun k hk => ⟨(h5 k hk).1, (h5 k hk).2.1, (h5 k hk).2.2.1, (h5 k hk).2.2.2⟩, h6, h7, h8, fun p hp => ⟨(h9 p hp).1, (h9 p hp).2.1, (h9 p hp).2.2⟩, h10⟩
/-- an order and its numbers -/
def knB (o : Od) (g : List Int) : Bool := odB o && decide (g.length ≤ 1000 ∧ ∀ n ∈ g, 1 ≤ n ∧ n ≤ 1000) && (match possM o (takersM o) with | some l => sameB l g | none => false)
theorem knB_ok {o : Od} {g : List Int} (h : knB o g = true) : o.ok ∧ okG g ∧ ∃ l, possM o (takersM o) = some l ∧ ∀ s, NM.Sg l s ↔ NM.Sg g s := by
  unfold knB at h
  obtain ⟨h1, h2⟩ := Bool.and_eq_true_iff.mp h
  obtain ⟨h3, h4⟩ := Bool.and_eq_true_iff.mp h1
  have h5 : g.length ≤ 1000 ∧ ∀ n ∈ g, 1 ≤ n ∧ n ≤ 1000 := of_decide_eq_true h4
  refine ⟨odB_ok h3, h5, ?_⟩
  cases hp : possM o (takersM o) with
  | none =>
    rw [hp] at h2
    cases h2
  | some l =>
    rw [hp] at h2
    exact ⟨l, rfl, same_sg h2⟩
def folkK (l : List Int) : List Pn := (["ann", "bob", "cy"] : List Str).zip l |>.map fun q => ⟨q.1, q.2, []⟩
abbrev Ent3 := List Kd × List Pn × List Int
def known (a b : Str) : List Ent3 :=
  let lone : List Pn := [⟨"ann", 1, []⟩, ⟨"bob", 1, [a]⟩]
  let nob : List Pn := [⟨"ann", 1, [a]⟩, ⟨"bob", 1, [a]⟩]
  [([⟨a, 3, [1]⟩], folkK [1, 1], [2]), ([⟨a, 3, [1]⟩], folkK [1, 1, 1], [1]), ([⟨a, 3, [1]⟩], folkK [1, 2], [1])]
  ++ [([⟨a, 1, [1]⟩], folkK [1, 1, 1], [3]), ([⟨a, 2, [3]⟩, ⟨b, 1, [4]⟩], folkK [1, 1], [2, 3])]
  ++ [([⟨a, 1, [2]⟩, ⟨b, 1, [3]⟩], folkK [1, 1], [2]), ([⟨a, 1, [1]⟩, ⟨b, 1, [2]⟩], folkK [1, 1], [2])]
  ++ [([⟨a, 1, [0]⟩], folkK [1, 1], [1]), ([⟨a, 1, [0]⟩, ⟨b, 1, [1]⟩], folkK [1, 1], [2])]
  ++ [([⟨a, 2, [5]⟩], folkK [1, 1], [1]), ([⟨a, 1, [6]⟩, ⟨b, 3, [2]⟩], folkK [1, 1], [1])]
  ++ [([⟨a, 2, [3]⟩, ⟨b, 1, [4]⟩], lone, []), ([⟨a, 1, [3]⟩, ⟨b, 1, [4]⟩], lone, [8])]
  ++ [([⟨a, 1, [3]⟩, ⟨b, 1, [3]⟩], lone, [1])]
  ++ [([⟨a, 1, [0]⟩, ⟨b, 2, [1]⟩], nob, [])]
def names4 : List (Str × Str) := [("plum", "pear"), ("kind", "person"), ("x", "x2"), ("without", "zz9")]
theorem known_all : (names4.all fun p => (known p.1 p.2).all fun e => knB ⟨["weight"], e.1, e.2.1⟩ e.2.2) = true := by decide +kernel
def wideK (a b : Str) : List Kd := [⟨a, 3, [1]⟩, ⟨b, 3, [2]⟩, ⟨"c3", 3, [3]⟩, ⟨"d4", 3, [4]⟩]
theorem wide_all : (names4.all fun p => ([[3, 2], [3, 3], [3, 2, 1]] : List (List Int)).all fun l => knB ⟨["w"], wideK p.1 p.2, folkK l⟩ [1]) = true := by decide +kernel
theorem both_all : (names4.all fun p => knB ⟨["w", "p"], [⟨p.1, 1, [1, 2]⟩, ⟨p.2, 1, [2, 1]⟩], folkK [1, 1]⟩ [2] && knB ⟨["w", "p"], [⟨p.1, 2, [1, 2]⟩, ⟨p.2, 2, [2, 1]⟩], folkK [1, 1]⟩ [1]) = true := by decide +kernel
end K11

/-! lists of entries, each a list of a tuple of kinds, a tuple of people and a tuple of numbers. -/
namespace K11
open PySem PySem.Spec PyProof.Rows L2 Z ZE
section
variable {K : PySem.W.Frag} {C CN CT : Addr} {σ : L2.St} {H0 : Hp}
def KE (K : PySem.W.Frag) (e : Ent3) (v : V) (H : Hp) : Prop := ∃ r a b c, v = .ref r ∧ H r = some (.lst [a, b, c]) ∧ DT K H a (.tup (e.1.map Kd.d)) ∧ DT K H b (.tup (e.2.1.map Pn.d)) ∧ DT K H c (.tup (e.2.2.map D.int))
theorem KE.mono {e : Ent3} {v : V} {H H' : Hp} (h : KE K e v H) (x : Ex H H') : KE K e v H' := by
  obtain ⟨r, a, b, c, rfl, h1, h2, h3, h4⟩ := h
  exact ⟨r, a, b, c, rfl, x.get h1, h2.mono x.any, h3.mono x.any, h4.mono x.any⟩
def KEs (K : PySem.W.Frag) : List Ent3 → List V → Hp → Prop
  | [], [], _ => True
  | e :: es, v :: vs, H => KE K e v H ∧ KEs K es vs H
  | _, _, _ => False
theorem KEs.mono {H H' : Hp} (x : Ex H H') : ∀ {es : List Ent3} {vs : List V}, KEs K es vs H → KEs K es vs H'
  | [], [], _ => trivial
  | _ :: _, _ :: _, h => ⟨h.1.mono x, KEs.mono x h.2⟩
  | [], _ :: _, h => h.elim
  | _ :: _, [], h => h.elim
theorem KEs.app {H : Hp} : ∀ {es fs : List Ent3} {vs ws : List V}, KEs K es vs H → KEs K fs ws H → KEs K (es ++ fs) (vs ++ ws) H
  | [], _, [], _, _, k => k
  | _ :: _, _, _ :: _, _, h, k => ⟨h.1, KEs.app h.2 k⟩
  | [], _, _ :: _, _, h, _ => h.elim
  | _ :: _, _, [], _, h, _ => h.elim
theorem KEs.len {H : Hp} : ∀ {es : List Ent3} {vs : List V}, KEs K es vs H → vs.length = es.length
  | [], [], _ => rfl
  | _ :: es, _ :: vs, h => by
    rw [List.length_cons, List.length_cons, KEs.len h.2]
  | [], _ :: _, h => h.elim
  | _ :: _, [], h => h.elim
theorem KEs.at {H : Hp} : ∀ {es : List Ent3} {vs : List V}, KEs K es vs H → ∀ {i : Nat} {v : V}, vs[i]? = some v → ∃ e, e ∈ es ∧ KE K e v H
  | [], [], _, i, v, h => by simp at h
  | e :: es, w :: vs, h, 0, v, hv => by
    cases hv
    exact ⟨e, List.mem_cons_self .., h.1⟩
  | e :: es, w :: vs, h, i + 1, v, hv => by
    obtain ⟨f, h1, h2⟩ := KEs.at h.2 (show vs[i]? = some v from hv)
    exact ⟨f, List.mem_cons_of_mem _ h1, h2⟩
  | [], _ :: _, h, _, _, _ => h.elim
  | _ :: _, [], h, _, _, _ => h.elim
def MkE (K : PySem.W.Frag) (H0 : Hp) (σ : L2.St) (t : TE) (e : Ent3) : Prop := ∀ (H : Hp) (Q : VK), Ex H0 H → (∀ v H', Ex H H' → KE K e v H' → Q v H') → t σ H Q
def MkEs (K : PySem.W.Frag) (H0 : Hp) (σ : L2.St) (t : TA) (es : List Ent3) : Prop := ∀ (H : Hp) (Q : List V → Hp → Prop), Ex H0 H → (∀ vs H', Ex H H' → KEs K es vs H' → Q vs H') → t σ H Q
def MkL (K : PySem.W.Frag) (H0 : Hp) (σ : L2.St) (t : TE) (es : List Ent3) : Prop := ∀ (H : Hp) (Q : VK), Ex H0 H → (∀ l vs H', Ex H H' → H' l = some (.lst vs) → KEs K es vs H' → Q (.ref l) H') → t σ H Q
theorem mk_ent {x y z : TE} {e : Ent3} (h1 : Mks K H0 σ x (.tup (e.1.map Kd.d))) (h2 : Mks K H0 σ y (.tup (e.2.1.map Pn.d))) (h3 : Mks K H0 σ z (.tup (e.2.2.map D.int))) : MkE K H0 σ (tLst (tCons x (tCons y (tCons z tNil)))) e := fun H Q e0 k => h1 H _ e0 fun a H1 e1 d1 => h2 H1 _ (e0.trans e1) fun b H2 e2 d2 => h3 H2 _ ((e0.trans e1).trans e2) fun c H3 e3 d3 => ⟨Nat.le_of_lt (smallt (by simp)), fun p np => k _ _ (((e1.trans e2).trans e3).trans (.new np)) ⟨p, a, b, c, rfl, upd_same, d1.mono ((e2.trans e3).trans (.new np)).any, d2.mono (e3.trans (.new np)).any, d3.mono (Gr.new (m := any) np)⟩⟩
theorem mke_nil : MkEs K H0 σ tNil [] := fun H Q _ k => k [] H .refl trivial
theorem mke_cons {t : TE} {ts : TA} {e : Ent3} {es : List Ent3} (h : MkE K H0 σ t e) (hs : MkEs K H0 σ ts es) : MkEs K H0 σ (tCons t ts) (e :: es) := fun H Q e0 k => h H _ e0 fun v H1 e1 d1 => hs H1 _ (e0.trans e1) fun vs H2 e2 d2 => k _ H2 (e1.trans e2) ⟨d1.mono e2, d2⟩
theorem mkl_lst {ts : TA} {es : List Ent3} (h : MkEs K H0 σ ts es) (hl : es.length ≤ 90000) : MkL K H0 σ (tLst ts) es := fun H Q e0 k => h H _ e0 fun vs H1 e1 d1 => ⟨Nat.le_of_lt (smallt (by have := d1.len; omega)), fun p np => k p vs _ (e1.trans (.new np)) upd_same (d1.mono (.new np))⟩
theorem mkl_var {i : Nat} {l : Addr} {vs : List V} {es : List Ent3} (hi : σ[i]? = some (some (.ref l))) (hl : H0 l = some (.lst vs)) (h : KEs K es vs H0) : MkL K H0 σ (tVar i) es := fun H Q e k => ⟨_, hi, k l vs H .refl (e.get hl) (h.mono e)⟩
theorem mkl_cat {s t : TE} {es fs : List Ent3} (h : MkL K H0 σ s es) (k : MkL K H0 σ t fs) (hl : es.length + fs.length ≤ 90000) : MkL K H0 σ (tOp rCat s t) (es ++ fs) := fun H Q e0 q => h H _ e0 fun l vs H1 e1 f1 d1 => k H1 _ (e0.trans e1) fun m ws H2 e2 f2 d2 => ⟨l, m, vs, ws, rfl, rfl, e2.get f1, f2, Nat.le_of_lt (smallt (by have := d1.len; have := d2.len; omega)), fun p np => q p _ _ ((e1.trans e2).trans (.new np)) upd_same (((d1.mono e2).app d2).mono (.new np))⟩
theorem seq_lst {t : TE} {i : Nat} {b : TS} {Dn : Ends} {H : Hp} {es : List Ent3} (h : MkL K H σ t es) (k : ∀ l vs H', Ex H H' → H' l = some (.lst vs) → KEs K es vs H' → b Dn (σ.set i (some (.ref l))) H') : tSeq (tAsg t (gName i)) b Dn σ H := h H _ .refl k
/-- possible(Order(..)) != Numbers(..) -/
theorem made_op {neg : Bool} {o : Od} {ns : List Int} {ts us : TA} {H : Hp} {Q : VK} {E E2 E3 : XK} (hk : knB o ns = true) (ho : MksA K H0 σ ts (ordD o)) (hm : MksA K H0 σ us [.tup (ns.map D.int)]) (e : Ex H0 H) (k : ∀ H', Ex H H' → Q (.bl (true != neg)) H') : tOp (rEqO CN (spEq K CN) neg) (tCall (spPossible K C CN CT) [] E (tCons (tMake C (spInitO K C) [] E3 ts) tNil)) (tMake CN (spInit K CN) [] E2 us) σ H Q := by
  obtain ⟨ok, okg, l, hl, hs⟩ := knB_ok hk
  have ho' : MksA K H σ ts (ordD o) := fun H2 Q2 e2 k2 => ho H2 Q2 (e.trans e2) k2
  have hm' : ∀ {H1 : Hp}, Ex H H1 → MksA K H1 σ us [.tup (ns.map D.int)] := fun e1 H2 Q2 e2 k2 => hm H2 Q2 ((e.trans e1).trans e2) k2
  unfold tOp tCall
  show tCons (tMake C (spInitO K C) [] E3 ts) tNil σ H _
  unfold tCons tNil
  refine mk_ord (K := K) ho' ok fun y H1 e1 O1 => ?_
  refine poss_tell O1 hl fun z g H2 e2 N2 h2 => ?_
  refine mk_num (hm' (e1.trans e2)) okg fun z' g' H3 e3 N3 h3 => ?_
  exact same_num (N2.mono e3 id) N3 (fun s => (h2 s).trans ((hs s).trans (h3 s).symm)) (k H3 ((e1.trans e2).trans e3))
end
end K11

namespace K11
open PySem PySem.Spec PyProof.Rows L2 Z ZE RZ
local macro_rules | `(tactic| walk_at "rd") => `(tactic| try simp only [cxOf, tSeq, tIfS, tRet, tRetN, tAsg, tDrop, tNext, tBreak, tCont, tNever, tPar, tPar3, tAug, gName, gTup, gCons, gNil, gSub, tVar, tC, tOp, tUn, tCB, tBM, tBM0, tCons, tNil, tTest, tB, tAnd, tOr, tNot, tAndV, tOrV, tNotV, tIf, tChain,
  tTup, tLst, tCall, tMeth, tSl, tPart, tNoPart, tM1, tFmt, tJs_nil, tJs_cons, tCKw, rI0, rI, rU, rEq, rNe, scal_ii, scal_ss, scal_bb, ipI, iStr, iTup, iList, iRng1, sFld, tFld, L2.start, List.getElem?_cons_zero, List.getElem?_cons_succ, List.set_cons_zero, List.set_cons_succ, Option.some.injEq, V.int.injEq, V.bl.injEq, V.str.injEq, V.ref.injEq,
  List.cons.injEq, exists_and_left, exists_eq_left', exists_eq_left, exists_eq_right, exists_eq_right', exists_eq', exists_eq, and_true, true_and, and_self, List.map_cons, List.map_nil, List.length_cons, List.length_nil, List.replicate_succ, List.replicate_zero, List.cons_append, List.nil_append, List.append_nil,
  Nat.add_sub_cancel, Nat.reduceAdd, Nat.reduceSub, if_true, if_false, ite_true, ite_false, Bool.not_true, Bool.not_false, Bool.true_eq_false, Bool.false_eq_true, reduceIte, reduceCtorEq, false_and, exists_false, or_false, false_or, decide_true, decide_false, wipe])

section
variable {P : Program} {w : World} {K : PySem.W.Frag} {mg : Str → Option Value} {base : Heap} {C : Addr}
theorem lcZLd {σ : L2.St} {H : Hp} {Q : VK} {ta : TA} {te : TE} {tt : L2.TT} {g : TG} {vs : List Nat} (C : Addr → Addr → Hp → Prop) (ht : ∀ R : List V → Hp → Prop, (∀ a b H1, C a b H1 → R [.ref a, .ref b] H1) → ta σ H R) (hk : ∀ a b H1, C a b H1 → tLc (iZip K (fun _ H R => R [.ref a, .ref b] H)) g tt te vs σ H1 Q) : tLc (iZip K ta) g tt te vs σ H Q := ht _ hk
/-- [f x y for x, y in zip(a, b)] of two lists, told by a relation -/
theorem lcZLR {σ : L2.St} {H : Hp} {Q : VK} {te : TE} {g : TG} {vs : List Nat} {a b : Addr} {xs ys : List V} {n : Nat} (h1 : SqL K H a xs) (h2 : SqL K H b ys) (hm : min xs.length ys.length = n) (hn : n ≤ 90000) (R : Nat → V → Hp → Prop) (hR : ∀ i y H' H'', R i y H' → Gr any H' H'' → R i y H'')
    (hs : ∀ (i : Nat) (T : Addr) (x y : V) (H' : Hp) (Q' : VK), xs[i]? = some x → ys[i]? = some y → Ex H H' → H' T = some (.tup [x, y]) → (∀ z H3, Ex H' H3 → R i z H3 → Q' z H3) → g (.ref T) (wipe σ vs) H' fun σ2 H2 => wipe σ2 vs = wipe σ vs ∧ te σ2 H2 Q')
    (k : ∀ D zs H', H D = none → Ex H H' → H' D = some (.lst zs) → zs.length = n → (∀ i z, zs[i]? = some z → R i z H') → Q (.ref D) H') : tLc (iZip K (fun _ H R => R [.ref a, .ref b] H)) g tYes te vs σ H Q := by
  refine ⟨a, b, xs, ys, rfl, h1, h2, ?_⟩
  refine lc_all (walk_zip (K := K) (a := a) (b := b) (xs := xs) (ys := ys) (n := n) (by omega)) nob (fun _ => True) R hn (fun H' e => ⟨e.seqL h1 id, e.seqL h2 id⟩) (fun _ z => z.elim) trivial (fun _ _ _ _ _ _ => trivial) hR (fun i v H' H'' Q' hi e _ y q => ?_) fun D ws H' hD e _ f lw hw => k D ws H' hD e f lw hw
  obtain ⟨T, x, z, rfl, nT, rfl, e4, e5⟩ := y
  have eT : Ex H' (upd H' T (.tup [x, z])) := .new nT
  exact hs i T x z _ Q' e4 e5 (e.trans eT) upd_same fun w H3 e3 hr => q w H3 (eT.trans e3) trivial hr
abbrev s_law_folk : Stmt := topS 98
theorem sc_law_folk : FnScope ["_law_shares", "_law_label", "_law_part"] ["_law_shares"] (defScope s_law_folk) := ⟨rfl, rfl, rfl, by decide +kernel, rfl, by decide +kernel, by decide +kernel⟩
def spFolk (K : PySem.W.Frag) : Sp := fun vs H Q _ => ∃ l ns, vs = [.ref l] ∧ H l = some (.lst (ns.map fun (n : Int) => V.int n)) ∧ ns.length ≤ 3 ∧ ∀ v H', Ex H H' → DT K H' v (.tup ((folkK ns).map Pn.d)) → Q v H'
theorem ok_law_folk (B : Bl mg) (D0 : Df K mg "_law_folk" s_law_folk) : Cal P w K mg base 1 "_law_folk" ["_law_shares"] (spFolk K) := by
  refine D0.cal sc_law_folk (fun _ _ _ _ _ _ us hl => match us, hl with | [_], _ => rfl) (fun vs H Q E h => ?_) (fun f cdv A outer s H vs Q E hr h => ?_)
  · obtain ⟨l, ns, rfl, _⟩ := h
    rfl
  · obtain ⟨l, ns, rfl, hl, hn, q⟩ := h
    refine ⟨_, (pss_one (ps_ret (pe_callTy (r := rTupOf K) call_tuple_of (by rfl) B.tuple_ (by decide +kernel) (pa_cons (pe_lc (own := [("_law_label", 1), ("_law_part", 2)]) (g := gTup K 2 (gCons (gName 1) (gCons (gName 2) gNil))) rfl sc_law_folk.nd (pi_zip (by rfl) B.zip_ (pa_cons (pe_lst (pa_cons pe_str (pa_cons pe_str (pa_cons pe_str pa_nil)))) (pa_cons (pv 0) pa_nil))) (blkOk_by (N := ["_law_shares", "_law_label", "_law_part"]) (sc := defScope s_law_folk) (by decide +kernel)) (fun _ _ _ _ _ => (by exact (pg_tup rfl (pgs_cons (pg_name (i := 1) sc_law_folk.nd rfl (.inl rfl)) (pgs_cons (pg_name (i := 2) sc_law_folk.nd rfl (.inl rfl)) pgs_nil))))) (fun _ _ _ _ _ => pts_nil) (fun _ _ _ _ _ => (pe_tup (pa_cons (pv 1) (pa_cons (pv 2) (pa_cons (pe_tup pa_nil) pa_nil)))))) pa_nil)))), ?_⟩
    walk_at "rd"
    refine lcZLd (fun a b H1 => Ex H H1 ∧ b = l ∧ H1 a = some (.lst ((["ann", "bob", "cy"] : List Str).map V.str))) (fun R h => ⟨by decide, fun p np => ⟨_, rfl, h p l _ ⟨.new np, rfl, upd_same⟩⟩⟩) fun a b H1 c => ?_
    obtain ⟨e1, rfl, ha⟩ := c
    refine lcZLR (n := ns.length) (sqL ha) (sqL (e1.get hl)) (by rw [List.length_map, List.length_map]; simp; omega) (by omega) (fun i z H' => ∃ p, (folkK ns)[i]? = some p ∧ DT K H' z p.d) (fun i y H' H'' h e => by
      obtain ⟨p, h1, h2⟩ := h
      exact ⟨p, h1, h2.mono e⟩) (fun i T x y H' Q' hx hy e hT k => ?_) fun D zs H' hD e hl2 hlen hz => ?_
    · walk_at "rd"
      refine ⟨_, sqT hT, rfl, x, _, rfl, y, _, rfl, rfl, by decide, fun p np => ⟨by decide, fun p1 np1 => ?_⟩⟩
      obtain ⟨z, hz, rfl⟩ : ∃ z, (["ann", "bob", "cy"] : List Str)[i]? = some z ∧ V.str z = x := by
        rw [List.getElem?_map] at hx
        exact Option.map_eq_some_iff.mp hx
      obtain ⟨n, hn2, rfl⟩ : ∃ n, ns[i]? = some n ∧ V.int n = y := by
        rw [List.getElem?_map] at hy
        exact Option.map_eq_some_iff.mp hy
      have hne : p ≠ p1 := fun h => by
        rw [h, upd_same] at np1
        cases np1
      refine k _ _ (.trans (.new np) (.new np1)) ⟨⟨z, n, []⟩, ?_, .tup (sqT upd_same) (.cons (.str _) (.cons (.int _) (.cons (.tup (sqT (by rw [upd_ne hne]; exact upd_same)) .nil) .nil)))⟩
      unfold folkK
      rw [List.getElem?_map, (List.getElem?_zip_eq_some (z := (z, n))).mpr ⟨hz, hn2⟩]
      rfl
    · walk_at "rd"
      have hfl : (folkK ns).length = ns.length := by
        unfold folkK
        simp
        omega
      refine ⟨_, _, rfl, .inl ⟨sqL hl2, fun p np => q _ _ (e1.trans (e.trans (.new np))) (.tup (sqT upd_same) ?_)⟩⟩
      refine DTs.of (by rw [List.length_map, hfl]; exact hlen) fun i y hy => ?_
      obtain ⟨p', h1, h2⟩ := hz i y hy
      exact ⟨p'.d, by rw [List.getElem?_map, h1]; rfl, h2.mono (Gr.new (m := any) np)⟩
/-- a list of people written in place -/
theorem bd_folk {σ : L2.St} {H0 : Hp} {ts : TA} {ns : List Int} {E : XK} (h : ∀ (H : Hp) (R : List V → Hp → Prop), Ex H0 H → (∀ H', Ex H H' → R (ns.map fun (n : Int) => V.int n) H') → ts σ H R) (hn : ns.length ≤ 3) : Mks K H0 σ (tCall (spFolk K) [] E (tCons (tLst ts) tNil)) (.tup ((folkK ns).map Pn.d)) := fun H Q e0 k => h H _ e0 fun H1 e1 => ⟨Nat.le_of_lt (smallt (by rw [List.length_map]; omega)), fun p np => ⟨p, ns, rfl, upd_same, hn, fun v H2 e2 d => k v H2 ((e1.trans (.new np)).trans e2) d⟩⟩
theorem bd_folkV {σ : L2.St} {H0 : Hp} {i : Nat} {l : Addr} {ns : List Int} {E : XK} (hi : σ[i]? = some (some (.ref l))) (hl : H0 l = some (.lst (ns.map fun (n : Int) => V.int n))) (hn : ns.length ≤ 3) : Mks K H0 σ (tCall (spFolk K) [] E (tCons (tVar i) tNil)) (.tup ((folkK ns).map Pn.d)) := fun H Q e0 k => ⟨_, hi, l, ns, rfl, e0.get hl, hn, fun v H2 e2 d => k v H2 e2 d⟩
end
end K11

namespace K11
open PySem PySem.Spec PyProof.Rows L2 Z ZE RZ
local macro_rules | `(tactic| walk_at "rd") => `(tactic| try simp only [cxOf, tSeq, tIfS, tRet, tRetN, tAsg, tDrop, tNext, tBreak, tCont, tNever, tPar, tPar3, tAug, gName, gTup, gCons, gNil, gSub, tVar, tC, tOp, tUn, tCB, tBM, tBM0, tCons, tNil, tTest, tB, tAnd, tOr, tNot, tAndV, tOrV, tNotV, tIf, tChain,
  tTup, tLst, tCall, tMeth, tSl, tPart, tNoPart, tM1, tFmt, tJs_nil, tJs_cons, tCKw, rI0, rI, rU, rEq, rNe, scal_ii, scal_ss, scal_bb, ipI, iStr, iTup, iList, iRng1, sFld, tFld, L2.start, List.getElem?_cons_zero, List.getElem?_cons_succ, List.set_cons_zero, List.set_cons_succ, Option.some.injEq, V.int.injEq, V.bl.injEq, V.str.injEq, V.ref.injEq,
  List.cons.injEq, exists_and_left, exists_eq_left', exists_eq_left, exists_eq_right, exists_eq_right', exists_eq', exists_eq, and_true, true_and, and_self, List.map_cons, List.map_nil, List.length_cons, List.length_nil, List.replicate_succ, List.replicate_zero, List.cons_append, List.nil_append, List.append_nil,
  Nat.add_sub_cancel, Nat.reduceAdd, Nat.reduceSub, if_true, if_false, ite_true, ite_false, Bool.not_true, Bool.not_false, Bool.true_eq_false, Bool.false_eq_true, reduceIte, reduceCtorEq, false_and, exists_false, or_false, false_or, decide_true, decide_false, wipe])

section
variable {P : Program} {w : World} {K : PySem.W.Frag} {mg : Str → Option Value} {base : Heap} {C : Addr}
theorem seq_par3 {x y z : TE} {i j l : Nat} {b : TS} {Dn : Ends} {σ : L2.St} {H : Hp} {d1 d2 d3 : D} (h1 : Mks K H σ x d1) (h2 : Mks K H σ y d2) (h3 : Mks K H σ z d3)
    (k : ∀ u v w H', Ex H H' → DT K H' u d1 → DT K H' v d2 → DT K H' w d3 → b Dn (((σ.set i (some u)).set j (some v)).set l (some w)) H') : tSeq (tPar3 i j l (tCons x (tCons y (tCons z tNil)))) b Dn σ H :=
  h1 H _ .refl fun u H1 e1 D1 => h2 H1 _ e1 fun v H2 e2 D2 => h3 H2 _ (e1.trans e2) fun w H3 e3 D3 => ⟨u, v, w, rfl, k u v w H3 ((e1.trans e2).trans e3) (D1.mono (e2.trans e3).any) (D2.mono e3.any) D3⟩
theorem bd_kd {H : Hp} {σ : L2.St} {s : Str} {c w : Int} (i : Nat) (h : σ[i]? = some (some (.str s))) : Mks K H σ (tTup (tCons (tVar i) (tCons (tC (.int c)) (tCons (tTup (tCons (tC (.int w)) tNil)) tNil)))) (Kd.d ⟨s, c, [w]⟩) := bd_tup (bda_cons (bd_var h (.str _)) (bda_cons (bd_int _) (bda_cons (bd_tup (bda_cons (bd_int _) bda_nil) (by simp)) bda_nil))) (by simp)
theorem bd_t0 {H : Hp} {σ : L2.St} : Mks K H σ (tTup tNil) (.tup []) := bd_tup bda_nil (by simp)
theorem bd_t1 {H : Hp} {σ : L2.St} {p : D} {a : TE} (h1 : Mks K H σ a p) : Mks K H σ (tTup (tCons a tNil)) (.tup [p]) := bd_tup (bda_cons h1 bda_nil) (by simp)
theorem bd_t2 {H : Hp} {σ : L2.St} {p q : D} {a b : TE} (h1 : Mks K H σ a p) (h2 : Mks K H σ b q) : Mks K H σ (tTup (tCons a (tCons b tNil))) (.tup [p, q]) := bd_tup (bda_cons h1 (bda_cons h2 bda_nil)) (by simp)
theorem bd_t3 {H : Hp} {σ : L2.St} {p q r : D} {a b c : TE} (h1 : Mks K H σ a p) (h2 : Mks K H σ b q) (h3 : Mks K H σ c r) : Mks K H σ (tTup (tCons a (tCons b (tCons c tNil)))) (.tup [p, q, r]) := bd_tup (bda_cons h1 (bda_cons h2 (bda_cons h3 bda_nil))) (by simp)
/-- an entry of one kind and one number; of two kinds -/
theorem ent11 {H : Hp} {σ : L2.St} {a : Str} {c x n : Int} {j : Nat} {v : V} {ps : List Pn} (ha : σ[0]? = some (some (.str a))) (hj : σ[j]? = some (some v)) (d : DT K H v (.tup (ps.map Pn.d))) :
    MkE K H σ (tLst (tCons (tTup (tCons (tTup (tCons (tVar 0) (tCons (tC (.int c)) (tCons (tTup (tCons (tC (.int x)) tNil)) tNil)))) tNil)) (tCons (tVar j) (tCons (tTup (tCons (tC (.int n)) tNil)) tNil)))) ([⟨a, c, [x]⟩], ps, [n]) := mk_ent (e := ([⟨a, c, [x]⟩], ps, [n])) (bd_t1 (bd_kd 0 ha)) (bd_var hj d) (bd_t1 (bd_int _))
theorem ent2 {H : Hp} {σ : L2.St} {a b : Str} {c x c' x' : Int} {ns : List Int} {t : TE} {j : Nat} {v : V} {ps : List Pn} (ha : σ[0]? = some (some (.str a))) (hb : σ[1]? = some (some (.str b))) (hj : σ[j]? = some (some v)) (d : DT K H v (.tup (ps.map Pn.d))) (hn : Mks K H σ t (.tup (ns.map D.int))) :
    MkE K H σ (tLst (tCons (tTup (tCons (tTup (tCons (tVar 0) (tCons (tC (.int c)) (tCons (tTup (tCons (tC (.int x)) tNil)) tNil)))) (tCons (tTup (tCons (tVar 1) (tCons (tC (.int c')) (tCons (tTup (tCons (tC (.int x')) tNil)) tNil)))) tNil))) (tCons (tVar j) (tCons t tNil)))) ([⟨a, c, [x]⟩, ⟨b, c', [x']⟩], ps, ns) := mk_ent (e := ([⟨a, c, [x]⟩, ⟨b, c', [x']⟩], ps, ns)) (bd_t2 (bd_kd 0 ha) (bd_kd 1 hb)) (bd_var hj d) hn
abbrev s_law_known : Stmt := topS 99
theorem sc_law_known : FnScope ["_law_a", "_law_b", "_law_one", "_law_two", "_law_three", "_law_found", "_law_lone", "_law_nobody"] ["_law_a", "_law_b"] (defScope s_law_known) := ⟨rfl, rfl, rfl, by decide +kernel, rfl, by decide +kernel, by decide +kernel⟩
def spKnown (K : PySem.W.Frag) : Sp := fun vs H Q _ => ∃ a b, vs = [.str a, .str b] ∧ ∀ l vs' H', Ex H H' → H' l = some (.lst vs') → KEs K (known a b) vs' H' → Q (.ref l) H'
theorem ok_law_known (B : Bl mg) (c_law_folk : Cal P w K mg base 1 "_law_folk" ["_law_shares"] (spFolk K)) (D0 : Df K mg "_law_known" s_law_known) : Cal P w K mg base 2 "_law_known" ["_law_a", "_law_b"] (spKnown K) := by
  refine D0.cal sc_law_known (fun _ _ _ _ _ _ us hl => match us, hl with | [_, _], _ => rfl) (fun vs H Q E h => ?_) (fun f cdv A outer s H vs Q E hr h => ?_)
  · obtain ⟨a, b, rfl, _⟩ := h
    rfl
  · obtain ⟨a, b, rfl, q⟩ := h
    refine ⟨_, (pss_cons (ps_par3 (i := 2) (j := 3) (l := 4) rfl sc_law_known.nd rfl rfl rfl (by decide) (by decide) (by decide) rfl rfl rfl (pa_cons (pe_cal c_law_folk hr (by decide) rfl (pa_cons (pe_lst (pa_cons pe_int (pa_cons pe_int pa_nil))) pa_nil)) (pa_cons (pe_cal c_law_folk hr (by decide) rfl (pa_cons (pe_lst (pa_cons pe_int (pa_cons pe_int pa_nil))) pa_nil)) (pa_cons (pe_cal c_law_folk hr (by decide) rfl (pa_cons (pe_lst (pa_cons pe_int (pa_cons pe_int (pa_cons pe_int pa_nil)))) pa_nil)) pa_nil))) (by rfl))
      (pss_cons (ps_set (i := 5) sc_law_known.nd rfl (.inl rfl) (pe_lst (pa_cons (pe_lst (pa_cons (pe_tup (pa_cons (pe_tup (pa_cons (pv 0) (pa_cons pe_int (pa_cons (pe_tup (pa_cons pe_int pa_nil)) pa_nil)))) pa_nil)) (pa_cons (pv 2) (pa_cons (pe_tup (pa_cons pe_int pa_nil)) pa_nil)))) (pa_cons (pe_lst (pa_cons (pe_tup (pa_cons (pe_tup (pa_cons (pv 0) (pa_cons pe_int (pa_cons (pe_tup (pa_cons pe_int pa_nil)) pa_nil)))) pa_nil)) (pa_cons (pv 4) (pa_cons (pe_tup (pa_cons pe_int pa_nil)) pa_nil)))) (pa_cons (pe_lst (pa_cons (pe_tup (pa_cons (pe_tup (pa_cons (pv 0) (pa_cons pe_int (pa_cons (pe_tup (pa_cons pe_int pa_nil)) pa_nil)))) pa_nil)) (pa_cons (pv 3) (pa_cons (pe_tup (pa_cons pe_int pa_nil)) pa_nil)))) pa_nil)))))
      (pss_cons (ps_set (i := 5) sc_law_known.nd rfl (.inl rfl) (pe_op op_cat (pv 5) (pe_lst (pa_cons (pe_lst (pa_cons (pe_tup (pa_cons (pe_tup (pa_cons (pv 0) (pa_cons pe_int (pa_cons (pe_tup (pa_cons pe_int pa_nil)) pa_nil)))) pa_nil)) (pa_cons (pv 4) (pa_cons (pe_tup (pa_cons pe_int pa_nil)) pa_nil)))) (pa_cons (pe_lst (pa_cons (pe_tup (pa_cons (pe_tup (pa_cons (pv 0) (pa_cons pe_int (pa_cons (pe_tup (pa_cons pe_int pa_nil)) pa_nil)))) (pa_cons (pe_tup (pa_cons (pv 1) (pa_cons pe_int (pa_cons (pe_tup (pa_cons pe_int pa_nil)) pa_nil)))) pa_nil))) (pa_cons (pv 2) (pa_cons (pe_tup (pa_cons pe_int (pa_cons pe_int pa_nil))) pa_nil)))) pa_nil)))))
      (pss_cons (ps_set (i := 5) sc_law_known.nd rfl (.inl rfl) (pe_op op_cat (pv 5) (pe_lst (pa_cons (pe_lst (pa_cons (pe_tup (pa_cons (pe_tup (pa_cons (pv 0) (pa_cons pe_int (pa_cons (pe_tup (pa_cons pe_int pa_nil)) pa_nil)))) (pa_cons (pe_tup (pa_cons (pv 1) (pa_cons pe_int (pa_cons (pe_tup (pa_cons pe_int pa_nil)) pa_nil)))) pa_nil))) (pa_cons (pv 2) (pa_cons (pe_tup (pa_cons pe_int pa_nil)) pa_nil)))) (pa_cons (pe_lst (pa_cons (pe_tup (pa_cons (pe_tup (pa_cons (pv 0) (pa_cons pe_int (pa_cons (pe_tup (pa_cons pe_int pa_nil)) pa_nil)))) (pa_cons (pe_tup (pa_cons (pv 1) (pa_cons pe_int (pa_cons (pe_tup (pa_cons pe_int pa_nil)) pa_nil)))) pa_nil))) (pa_cons (pv 2) (pa_cons (pe_tup (pa_cons pe_int pa_nil)) pa_nil)))) pa_nil)))))
      (pss_cons (ps_set (i := 5) sc_law_known.nd rfl (.inl rfl) (pe_op op_cat (pv 5) (pe_lst (pa_cons (pe_lst (pa_cons (pe_tup (pa_cons (pe_tup (pa_cons (pv 0) (pa_cons pe_int (pa_cons (pe_tup (pa_cons pe_int pa_nil)) pa_nil)))) pa_nil)) (pa_cons (pv 2) (pa_cons (pe_tup (pa_cons pe_int pa_nil)) pa_nil)))) (pa_cons (pe_lst (pa_cons (pe_tup (pa_cons (pe_tup (pa_cons (pv 0) (pa_cons pe_int (pa_cons (pe_tup (pa_cons pe_int pa_nil)) pa_nil)))) (pa_cons (pe_tup (pa_cons (pv 1) (pa_cons pe_int (pa_cons (pe_tup (pa_cons pe_int pa_nil)) pa_nil)))) pa_nil))) (pa_cons (pv 2) (pa_cons (pe_tup (pa_cons pe_int pa_nil)) pa_nil)))) pa_nil)))))
      (pss_cons (ps_set (i := 5) sc_law_known.nd rfl (.inl rfl) (pe_op op_cat (pv 5) (pe_lst (pa_cons (pe_lst (pa_cons (pe_tup (pa_cons (pe_tup (pa_cons (pv 0) (pa_cons pe_int (pa_cons (pe_tup (pa_cons pe_int pa_nil)) pa_nil)))) pa_nil)) (pa_cons (pv 2) (pa_cons (pe_tup (pa_cons pe_int pa_nil)) pa_nil)))) (pa_cons (pe_lst (pa_cons (pe_tup (pa_cons (pe_tup (pa_cons (pv 0) (pa_cons pe_int (pa_cons (pe_tup (pa_cons pe_int pa_nil)) pa_nil)))) (pa_cons (pe_tup (pa_cons (pv 1) (pa_cons pe_int (pa_cons (pe_tup (pa_cons pe_int pa_nil)) pa_nil)))) pa_nil))) (pa_cons (pv 2) (pa_cons (pe_tup (pa_cons pe_int pa_nil)) pa_nil)))) pa_nil)))))
      (pss_cons (ps_set (i := 6) sc_law_known.nd rfl (.inl rfl) (pe_tup (pa_cons (pe_tup (pa_cons pe_str (pa_cons pe_int (pa_cons (pe_tup pa_nil) pa_nil)))) (pa_cons (pe_tup (pa_cons pe_str (pa_cons pe_int (pa_cons (pe_tup (pa_cons (pv 0) pa_nil)) pa_nil)))) pa_nil))))
      (pss_cons (ps_set (i := 5) sc_law_known.nd rfl (.inl rfl) (pe_op op_cat (pv 5) (pe_lst (pa_cons (pe_lst (pa_cons (pe_tup (pa_cons (pe_tup (pa_cons (pv 0) (pa_cons pe_int (pa_cons (pe_tup (pa_cons pe_int pa_nil)) pa_nil)))) (pa_cons (pe_tup (pa_cons (pv 1) (pa_cons pe_int (pa_cons (pe_tup (pa_cons pe_int pa_nil)) pa_nil)))) pa_nil))) (pa_cons (pv 6) (pa_cons (pe_tup pa_nil) pa_nil)))) (pa_cons (pe_lst (pa_cons (pe_tup (pa_cons (pe_tup (pa_cons (pv 0) (pa_cons pe_int (pa_cons (pe_tup (pa_cons pe_int pa_nil)) pa_nil)))) (pa_cons (pe_tup (pa_cons (pv 1) (pa_cons pe_int (pa_cons (pe_tup (pa_cons pe_int pa_nil)) pa_nil)))) pa_nil))) (pa_cons (pv 6) (pa_cons (pe_tup (pa_cons pe_int pa_nil)) pa_nil)))) pa_nil)))))
      (pss_cons (ps_set (i := 5) sc_law_known.nd rfl (.inl rfl) (pe_op op_cat (pv 5) (pe_lst (pa_cons (pe_lst (pa_cons (pe_tup (pa_cons (pe_tup (pa_cons (pv 0) (pa_cons pe_int (pa_cons (pe_tup (pa_cons pe_int pa_nil)) pa_nil)))) (pa_cons (pe_tup (pa_cons (pv 1) (pa_cons pe_int (pa_cons (pe_tup (pa_cons pe_int pa_nil)) pa_nil)))) pa_nil))) (pa_cons (pv 6) (pa_cons (pe_tup (pa_cons pe_int pa_nil)) pa_nil)))) pa_nil))))
      (pss_cons (ps_set (i := 7) sc_law_known.nd rfl (.inl rfl) (pe_tup (pa_cons (pe_tup (pa_cons pe_str (pa_cons pe_int (pa_cons (pe_tup (pa_cons (pv 0) pa_nil)) pa_nil)))) (pa_cons (pe_tup (pa_cons pe_str (pa_cons pe_int (pa_cons (pe_tup (pa_cons (pv 0) pa_nil)) pa_nil)))) pa_nil))))
      (pss_one (ps_ret (pe_op op_cat (pv 5) (pe_lst (pa_cons (pe_lst (pa_cons (pe_tup (pa_cons (pe_tup (pa_cons (pv 0) (pa_cons pe_int (pa_cons (pe_tup (pa_cons pe_int pa_nil)) pa_nil)))) (pa_cons (pe_tup (pa_cons (pv 1) (pa_cons pe_int (pa_cons (pe_tup (pa_cons pe_int pa_nil)) pa_nil)))) pa_nil))) (pa_cons (pv 7) (pa_cons (pe_tup pa_nil) pa_nil)))) pa_nil))))))))))))))), ?_⟩
    refine seq_par3 (bd_folk (ns := [1, 1]) (fun _ _ _ k => k _ .refl) (by decide)) (bd_folk (ns := [1, 2]) (fun _ _ _ k => k _ .refl) (by decide)) (bd_folk (ns := [1, 1, 1]) (fun _ _ _ k => k _ .refl) (by decide)) fun v2 v3 v4 H1 e1 d2 d3 d4 => ?_
    refine seq_lst (mkl_lst (mke_cons (ent11 rfl rfl d2) (mke_cons (ent11 rfl rfl d4) (mke_cons (ent11 rfl rfl d3) mke_nil))) (by simp)) fun l1 w1 H2 e2 f1 k1 => ?_
    have n1 : ∀ {H' : Hp} {σ : L2.St} {n : Int}, Mks K H' σ (tTup (tCons (tC (.int n)) tNil)) (.tup (([n] : List Int).map D.int)) := bd_t1 (bd_int _)
    have n2 : ∀ {H' : Hp} {σ : L2.St} {n m : Int}, Mks K H' σ (tTup (tCons (tC (.int n)) (tCons (tC (.int m)) tNil))) (.tup (([n, m] : List Int).map D.int)) := bd_t2 (bd_int _) (bd_int _)
    have n0 : ∀ {H' : Hp} {σ : L2.St}, Mks K H' σ (tTup tNil) (.tup (([] : List Int).map D.int)) := bd_t0
    replace d4 := d4.mono e2.any
    replace d2 := d2.mono e2.any
    refine seq_lst (mkl_cat (mkl_var rfl f1 k1) (mkl_lst (mke_cons (ent11 rfl rfl d4) (mke_cons (ent2 rfl rfl rfl d2 n2) mke_nil)) (by simp)) (by simp)) fun l2 w2 H3 e3 f2 k2 => ?_
    replace d2 := d2.mono e3.any
    refine seq_lst (mkl_cat (mkl_var rfl f2 k2) (mkl_lst (mke_cons (ent2 rfl rfl rfl d2 n1) (mke_cons (ent2 rfl rfl rfl d2 n1) mke_nil)) (by simp)) (by simp)) fun l3 w3 H4 e4 f3 k3 => ?_
    replace d2 := d2.mono e4.any
    refine seq_lst (mkl_cat (mkl_var rfl f3 k3) (mkl_lst (mke_cons (ent11 rfl rfl d2) (mke_cons (ent2 rfl rfl rfl d2 n1) mke_nil)) (by simp)) (by simp)) fun l4 w4 H5 e5 f4 k4 => ?_
    replace d2 := d2.mono e5.any
    refine seq_lst (mkl_cat (mkl_var rfl f4 k4) (mkl_lst (mke_cons (ent11 rfl rfl d2) (mke_cons (ent2 rfl rfl rfl d2 n1) mke_nil)) (by simp)) (by simp)) fun l5 w5 H6 e6 f5 k5 => ?_
    refine seq_mk (K := K) (d := .tup (([⟨"ann", 1, []⟩, ⟨"bob", 1, [a]⟩] : List Pn).map Pn.d)) (bd_t2 (bd_t3 (bd_str _) (bd_int _) bd_t0) (bd_t3 (bd_str _) (bd_int _) (bd_t1 (bd_var rfl (.str _))))) fun v6 H7 e7 d6 => ?_
    refine seq_lst (mkl_cat (mkl_var rfl (e7.get f5) (k5.mono e7)) (mkl_lst (mke_cons (ent2 rfl rfl rfl d6 n0) (mke_cons (ent2 rfl rfl rfl d6 n1) mke_nil)) (by simp)) (by simp)) fun l6 w6 H8 e8 f6 k6 => ?_
    replace d6 := d6.mono e8.any
    refine seq_lst (mkl_cat (mkl_var rfl f6 k6) (mkl_lst (mke_cons (ent2 rfl rfl rfl d6 n1) mke_nil) (by simp)) (by simp)) fun l7 w7 H9 e9 f7 k7 => ?_
    refine seq_mk (K := K) (d := .tup (([⟨"ann", 1, [a]⟩, ⟨"bob", 1, [a]⟩] : List Pn).map Pn.d)) (bd_t2 (bd_t3 (bd_str _) (bd_int _) (bd_t1 (bd_var rfl (.str _)))) (bd_t3 (bd_str _) (bd_int _) (bd_t1 (bd_var rfl (.str _))))) fun v7 H10 e10 d7 => ?_
    refine (mkl_cat (mkl_var rfl (e10.get f7) (k7.mono e10)) (mkl_lst (mke_cons (ent2 rfl rfl rfl d7 n0) mke_nil) (by simp)) (by simp)) H10 _ .refl fun l8 w8 H11 e11 f8 k8 => ?_
    exact q l8 w8 H11 ((((((((((e1.trans e2).trans e3).trans e4).trans e5).trans e6).trans e7).trans e8).trans e9).trans e10).trans e11) f8 k8
end
end K11

namespace K11
open PySem PySem.Spec PyProof.Rows L2 Z ZE RZ LamX
local macro_rules | `(tactic| walk_at "rd") => `(tactic| try simp only [cxOf, tSeq, tIfS, tRet, tRetN, tAsg, tDrop, tNext, tBreak, tCont, tNever, tPar, tPar3, tAug, gName, gTup, gCons, gNil, gSub, tVar, tC, tOp, tUn, tCB, tBM, tBM0, tCons, tNil, tTest, tB, tAnd, tOr, tNot, tAndV, tOrV, tNotV, tIf, tChain,
  tTup, tLst, tCall, tMeth, tSl, tPart, tNoPart, tM1, tFmt, tJs_nil, tJs_cons, tCKw, rI0, rI, rU, rEq, rNe, scal_ii, scal_ss, scal_bb, ipI, iStr, iTup, iList, iRng1, sFld, tFld, L2.start, List.getElem?_cons_zero, List.getElem?_cons_succ, List.set_cons_zero, List.set_cons_succ, Option.some.injEq, V.int.injEq, V.bl.injEq, V.str.injEq, V.ref.injEq,
  List.cons.injEq, exists_and_left, exists_eq_left', exists_eq_left, exists_eq_right, exists_eq_right', exists_eq', exists_eq, and_true, true_and, and_self, List.map_cons, List.map_nil, List.length_cons, List.length_nil, List.replicate_succ, List.replicate_zero, List.cons_append, List.nil_append, List.append_nil,
  Nat.add_sub_cancel, Nat.reduceAdd, Nat.reduceSub, if_true, if_false, ite_true, ite_false, Bool.not_true, Bool.not_false, Bool.true_eq_false, Bool.false_eq_true, reduceIte, reduceCtorEq, false_and, exists_false, or_false, false_or, decide_true, decide_false, wipe])

section
variable {P : Program} {w : World} {K : PySem.W.Frag} {mg : Str → Option Value} {base : Heap} {C : Addr}
theorem poolUp {H H' : Hp} {a : Addr} (h : Pool H a) (e : Ex H H') : Pool H' a := by
  obtain ⟨u, v, c, q⟩ := h
  exact ⟨u, v, c, e.get q⟩
theorem poolNe {H : Hp} {a p : Addr} (h : Pool H a) (hp : H p = none) : ¬ p = a := fun z => by
  obtain ⟨_, _, _, h⟩ := h
  rw [z, h] at hp
  cases hp
def prT (p : Str × Str) : D := .tup [.str p.1, .str p.2]
theorem bd_pr {H : Hp} {σ : L2.St} (x y : Str) : Mks K H σ (tTup (tCons (tC (.str x)) (tCons (tC (.str y)) tNil))) (prT (x, y)) := bd_t2 (bd_str _) (bd_str _)
theorem seq_take {T : List (Addr × Str)} {σ : L2.St} {H : Hp} {a : Addr} {ts : TA} {b : TS} {Dn : Ends} {E : XK} {ps : List (Str × Str)} (ha : σ[0]? = some (some (.ref a))) (hp : Pool H a) (tT : Tabs T H) (h : MksA K H σ ts (ps.map prT)) (hl : 0 < ps.length ∧ ps.length ≤ 1000)
    (k : ∀ p H', p ∈ ps → Gx (· = a) H H' → Tabs T H' → b Dn ((σ.set 1 (some (.str p.1))).set 2 (some (.str p.2))) H') : tSeq (tAsg (tCall (spTake K) [] E (tCons (tVar 0) (tCons (tLst ts) tNil))) (gTup K 2 (gCons (gName 1) (gCons (gName 2) gNil)))) b Dn σ H := by
  refine ⟨_, ha, h H _ .refl fun vs H1 e1 d1 => ?_⟩
  have hv := d1.len
  rw [List.length_map] at hv
  refine ⟨Nat.le_of_lt (smallt (by omega)), fun l nl => ?_⟩
  have e2 : Ex H1 (upd H1 l (.lst vs)) := .new nl
  refine ⟨a, l, vs, rfl, poolUp hp (e1.trans e2), sqL upd_same, poolNe (poolUp hp e1) nl, ⟨by omega, by omega⟩, fun v H2 hm g _ => ?_⟩
  obtain ⟨i, hi⟩ := List.mem_iff_getElem?.mp hm
  obtain ⟨d, hd, h1⟩ := d1.get hi
  rw [List.getElem?_map] at hd
  obtain ⟨p, hp2, rfl⟩ := Option.map_eq_some_iff.mp hd
  obtain ⟨r, xs, rfl, S, s⟩ := dtT ((h1.mono e2.any).mono g.any)
  cases s with
  | cons s1 s2 =>
    cases s2 with
    | cons s3 s4 =>
      cases s4
      cases s1
      cases s3
      exact ⟨r, _, rfl, S, rfl, _, _, rfl, _, _, rfl, rfl, k p H2 (List.mem_of_getElem? hp2) ((e1.trans e2).of.trans g).x (Tabs.gr tT ((e1.trans e2).of.trans g))⟩
theorem if_no {σ : L2.St} {c : L2.TT} {t b : TS} {Dn : Ends} {H : Hp} (h : No H σ c) (k : ∀ H', Ex H H' → b Dn σ H') : tIfS c t b Dn σ H := by
  unfold tIfS
  exact h H _ .refl fun H' e => iteF (k H' e)
theorem made_no {CN CT : Addr} {σ : L2.St} {H0 : Hp} {o : Od} {ns : List Int} {ts us : TA} {E E2 E3 : XK} (hk : knB o ns = true) (ho : MksA K H0 σ ts (ordD o)) (hm : MksA K H0 σ us [.tup (ns.map D.int)]) : No H0 σ (tTest (tOp (rEqO CN (spEq K CN) true) (tCall (spPossible K C CN CT) [] E (tCons (tMake C (spInitO K C) [] E3 ts) tNil)) (tMake CN (spInit K CN) [] E2 us))) := fun H F e q => made_op hk ho hm e fun H1 e1 => ⟨false, rfl, q H1 e1⟩
theorem knYes {CN CT : Addr} {σ : L2.St} {H0 : Hp} {i : Nat} {y : Addr} {o : Od} {ns : List Int} {us : TA} {E E2 : XK} (hi : σ[i]? = some (some (.ref y))) (O : OrdAt K C H0 y o) (hk : knB o ns = true) (hm : MksA K H0 σ us [.tup (ns.map D.int)]) : Yes H0 σ (tOp (rEqO CN (spEq K CN) false) (tCall (spPossible K C CN CT) [] E (tCons (tVar i) tNil)) (tMake CN (spInit K CN) [] E2 us)) := by
  obtain ⟨_, okg, l, hl, hs⟩ := knB_ok hk
  exact poss_yes hi O hl hs okg hm
theorem bd_kd2 {H : Hp} {σ : L2.St} {s : Str} {c w w' : Int} (i : Nat) (h : σ[i]? = some (some (.str s))) : Mks K H σ (tTup (tCons (tVar i) (tCons (tC (.int c)) (tCons (tTup (tCons (tC (.int w)) (tCons (tC (.int w')) tNil))) tNil)))) (Kd.d ⟨s, c, [w, w']⟩) := bd_t3 (bd_var h (.str _)) (bd_int _) (bd_t2 (bd_int _) (bd_int _))
/-- the shares, lists of whole numbers -/
def ShsL (H : Hp) (ls : List (List Int)) (vs : List V) : Prop := ∀ (i : Nat) (v : V), vs[i]? = some v → ∃ r l, l ∈ ls ∧ v = .ref r ∧ H r = some (.lst (l.map fun (n : Int) => V.int n))
theorem ShsL.mono {H H' : Hp} {ls : List (List Int)} {vs : List V} (h : ShsL H ls vs) (e : Ex H H') : ShsL H' ls vs := fun i v hv => by
  obtain ⟨r, l, h1, h2, h3⟩ := h i v hv
  exact ⟨r, l, h1, h2, e.get h3⟩
abbrev s_law_right : Stmt := topS 100
theorem sc_law_right : FnScope ["_law_jar_here", "_law_a", "_law_b", "_law_sorts", "_law_folk_here", "_law_due", "_law_wide", "_law_shares", "_law_both", "_law_third"] ["_law_jar_here"] (defScope s_law_right) := ⟨rfl, rfl, rfl, by decide +kernel, rfl, by decide +kernel, by decide +kernel⟩
def spRight (T : List (Addr × Str)) : Sp := fun vs H Q _ => ∃ a, vs = [.ref a] ∧ Pool H a ∧ Tabs T H ∧ ∀ H', Gx (· = a) H H' → Tabs T H' → Q (.bl true) H'
theorem ok_law_right {CN CT : Addr} {T : List (Addr × Str)} (B : Bl mg) (nec : NeC K CN) (m_Order : Mkr P w K mg base 6 "Order" C ["self", "measures", "kinds", "people"] (spInitO K C)) (m_Numbers : Mkr P w K mg base 4 "Numbers" CN ["self", "generators"] (spInit K CN)) (c_possible : Cal P w K mg base 9 "possible" ["order"] (spPossible K C CN CT)) (d_Numbers__eq : Mtd P w K mg base 1 CN "__eq__" ["self", "other"] (spEq K CN))
    (c_law_take : Cal P w K mg base 2 "_law_take" ["_law_jar_here", "_law_some"] (spTake K)) (c_law_known : Cal P w K mg base 2 "_law_known" ["_law_a", "_law_b"] (spKnown K)) (c_law_folk : Cal P w K mg base 1 "_law_folk" ["_law_shares"] (spFolk K))
    (D0 : Df K mg "_law_right" s_law_right) : Cal P w K mg base 10 "_law_right" ["_law_jar_here"] (spRight T) := by
  refine D0.cal sc_law_right (fun _ _ _ _ _ _ us hl => match us, hl with | [_], _ => rfl) (fun vs H Q E h => ?_) (fun f cdv A outer s H vs Q E hr h => ?_)
  · obtain ⟨a, rfl, _⟩ := h
    rfl
  · obtain ⟨a, rfl, hp, tT, q⟩ := h
    refine ⟨_, (pss_cons (ps_asg (pe_cal c_law_take hr (by decide) rfl (pa_cons (pv 0) (pa_cons (pe_lst (pa_cons (pe_tup (pa_cons pe_str (pa_cons pe_str pa_nil))) (pa_cons (pe_tup (pa_cons pe_str (pa_cons pe_str pa_nil))) (pa_cons (pe_tup (pa_cons pe_str (pa_cons pe_str pa_nil))) (pa_cons (pe_tup (pa_cons pe_str (pa_cons pe_str pa_nil))) pa_nil))))) pa_nil))) (pg_tup rfl (pgs_cons (pg_name (i := 1) sc_law_right.nd rfl (.inl rfl)) (pgs_cons (pg_name (i := 2) sc_law_right.nd rfl (.inl rfl)) pgs_nil))))
      (pss_cons (ps_for PassesOwn.never rfl (pi_list (pe_cal c_law_known hr (by decide) rfl (pa_cons (pv 1) (pa_cons (pv 2) pa_nil)))) (pg_lst rfl (pgs_cons (pg_name (i := 3) sc_law_right.nd rfl (.inl rfl)) (pgs_cons (pg_name (i := 4) sc_law_right.nd rfl (.inl rfl)) (pgs_cons (pg_name (i := 5) sc_law_right.nd rfl (.inl rfl)) pgs_nil)))) (pss_one (ps_if (pt_cmpR (op_neO d_Numbers__eq nec hr (by decide)) (pe_cal c_possible hr (by decide) rfl (pa_cons (pe_mk m_Order hr (by decide) rfl (pa_cons (pe_tup (pa_cons pe_str pa_nil)) (pa_cons (pv 3) (pa_cons (pv 4) pa_nil)))) pa_nil)) (pe_mk m_Numbers hr (by decide) rfl (pa_cons (pv 5) pa_nil)) (nomark _)) (pss_one (ps_ret pe_bl)) pss_nil)))
      (pss_cons (ps_set (i := 6) sc_law_right.nd rfl (.inl rfl) (pe_tup (pa_cons (pe_tup (pa_cons (pv 1) (pa_cons pe_int (pa_cons (pe_tup (pa_cons pe_int pa_nil)) pa_nil)))) (pa_cons (pe_tup (pa_cons (pv 2) (pa_cons pe_int (pa_cons (pe_tup (pa_cons pe_int pa_nil)) pa_nil)))) (pa_cons (pe_tup (pa_cons pe_str (pa_cons pe_int (pa_cons (pe_tup (pa_cons pe_int pa_nil)) pa_nil)))) (pa_cons (pe_tup (pa_cons pe_str (pa_cons pe_int (pa_cons (pe_tup (pa_cons pe_int pa_nil)) pa_nil)))) pa_nil))))))
      (pss_cons (ps_for PassesOwn.never rfl (pi_list (pe_lst (pa_cons (pe_lst (pa_cons pe_int (pa_cons pe_int pa_nil))) (pa_cons (pe_lst (pa_cons pe_int (pa_cons pe_int pa_nil))) (pa_cons (pe_lst (pa_cons pe_int (pa_cons pe_int (pa_cons pe_int pa_nil)))) pa_nil))))) (pg_name (i := 7) sc_law_right.nd rfl (.inl rfl)) (pss_one (ps_if (pt_cmpR (op_neO d_Numbers__eq nec hr (by decide)) (pe_cal c_possible hr (by decide) rfl (pa_cons (pe_mk m_Order hr (by decide) rfl (pa_cons (pe_tup (pa_cons pe_str pa_nil)) (pa_cons (pv 6) (pa_cons (pe_cal c_law_folk hr (by decide) rfl (pa_cons (pv 7) pa_nil)) pa_nil)))) pa_nil)) (pe_mk m_Numbers hr (by decide) rfl (pa_cons (pe_tup (pa_cons pe_int pa_nil)) pa_nil)) (nomark _)) (pss_one (ps_ret pe_bl)) pss_nil)))
      (pss_cons (ps_set (i := 8) sc_law_right.nd rfl (.inl rfl) (pe_mk m_Order hr (by decide) rfl (pa_cons (pe_tup (pa_cons pe_str (pa_cons pe_str pa_nil))) (pa_cons (pe_tup (pa_cons (pe_tup (pa_cons (pv 1) (pa_cons pe_int (pa_cons (pe_tup (pa_cons pe_int (pa_cons pe_int pa_nil))) pa_nil)))) (pa_cons (pe_tup (pa_cons (pv 2) (pa_cons pe_int (pa_cons (pe_tup (pa_cons pe_int (pa_cons pe_int pa_nil))) pa_nil)))) pa_nil))) (pa_cons (pe_cal c_law_folk hr (by decide) rfl (pa_cons (pe_lst (pa_cons pe_int (pa_cons pe_int pa_nil))) pa_nil)) pa_nil)))))
      (pss_cons (ps_set (i := 9) sc_law_right.nd rfl (.inl rfl) (pe_mk m_Order hr (by decide) rfl (pa_cons (pe_tup (pa_cons pe_str (pa_cons pe_str pa_nil))) (pa_cons (pe_tup (pa_cons (pe_tup (pa_cons (pv 1) (pa_cons pe_int (pa_cons (pe_tup (pa_cons pe_int (pa_cons pe_int pa_nil))) pa_nil)))) (pa_cons (pe_tup (pa_cons (pv 2) (pa_cons pe_int (pa_cons (pe_tup (pa_cons pe_int (pa_cons pe_int pa_nil))) pa_nil)))) pa_nil))) (pa_cons (pe_cal c_law_folk hr (by decide) rfl (pa_cons (pe_lst (pa_cons pe_int (pa_cons pe_int pa_nil))) pa_nil)) pa_nil)))))
      (pss_one (ps_ret (pe_and (pe_cmpR (op_eqO d_Numbers__eq hr (by decide)) (pe_cal c_possible hr (by decide) rfl (pa_cons (pv 8) pa_nil)) (pe_mk m_Numbers hr (by decide) rfl (pa_cons (pe_tup (pa_cons pe_int pa_nil)) pa_nil)) (nomark _)) (pe_one (pe_cmpR (op_eqO d_Numbers__eq hr (by decide)) (pe_cal c_possible hr (by decide) rfl (pa_cons (pv 9) pa_nil)) (pe_mk m_Numbers hr (by decide) rfl (pa_cons (pe_tup (pa_cons pe_int pa_nil)) pa_nil)) (nomark _)))))))))))), ?_⟩
    refine seq_take (T := T) (ps := names4) rfl hp tT (bda_cons (bd_pr _ _) (bda_cons (bd_pr _ _) (bda_cons (bd_pr _ _) (bda_cons (bd_pr _ _) bda_nil)))) (by decide) fun p H1 hp g1 T1 => ?_
    have kn := List.all_eq_true.mp known_all p hp
    have wd := List.all_eq_true.mp wide_all p hp
    have bo := List.all_eq_true.mp both_all p hp
    refine forLn (fun l vs H' => H' l = some (.lst vs) ∧ KEs K (known p.1 p.2) vs H' ∧ Ex H1 H') (fun R k => ⟨_, rfl, _, rfl, _, _, rfl, fun l vs H' e h1 h2 => k l vs H' ⟨h1, h2, e⟩⟩) (fun l vs H' c => sqL c.1)
      (fun l vs i σ' H' => ∃ y3 y4 y5 : Option V, σ' = [some (.ref a), some (.str p.1), some (.str p.2), y3, y4, y5, none, none, none, none] ∧ H' l = some (.lst vs) ∧ KEs K (known p.1 p.2) vs H' ∧ Ex H1 H') (fun l vs H' c => ⟨_, _, _, rfl, c⟩) (fun l vs i σ' H' ⟨_, _, _, _, c, _⟩ => sqL c) ?_ ?_
    · rintro l vs i x σ' H' hx ⟨y3, y4, y5, rfl, h1, h2, e⟩
      obtain ⟨en, hen, r, a1, b1, c1, rfl, hr, d1, d2, d3⟩ := h2.at hx
      refine ⟨r, _, rfl, sqL hr, rfl, _, _, rfl, _, _, rfl, _, _, rfl, rfl, ?_⟩
      refine if_no (made_no (o := ⟨["weight"], en.1, en.2.1⟩) (ns := en.2.2) (List.all_eq_true.mp kn en hen) (bda_cons (bd_t1 (bd_str _)) (bda_cons (bd_var rfl d1) (bda_cons (bd_var rfl d2) bda_nil))) (bda_cons (bd_var rfl d3) bda_nil)) fun H2 e2 => ?_
      exact ⟨_, _, _, rfl, e2.get h1, h2.mono e2, e.trans e2⟩
    · rintro l vs σ' H' ⟨y3, y4, y5, rfl, h1, h2, e⟩
      refine seq_mk (K := K) (d := .tup ((wideK p.1 p.2).map Kd.d)) (bd_tup (bda_cons (bd_kd 1 rfl) (bda_cons (bd_kd 2 rfl) (bda_cons (bd_t3 (bd_str _) (bd_int _) (bd_t1 (bd_int _))) (bda_cons (bd_t3 (bd_str _) (bd_int _) (bd_t1 (bd_int _))) bda_nil)))) (by show 4 ≤ 90000; decide)) fun v6 H2 e2 d6 => ?_
      refine forLn (fun l vs H' => H' l = some (.lst vs) ∧ ShsL H' [[3, 2], [3, 3], [3, 2, 1]] vs ∧ Ex H2 H') (fun R k => ?_) (fun l vs H' c => sqL c.1)
        (fun l vs i σ' H' => ∃ y7 : Option V, σ' = [some (.ref a), some (.str p.1), some (.str p.2), y3, y4, y5, some v6, y7, none, none] ∧ H' l = some (.lst vs) ∧ ShsL H' [[3, 2], [3, 3], [3, 2, 1]] vs ∧ Ex H2 H') (fun l vs H' c => ⟨_, rfl, c⟩) (fun l vs i σ' H' ⟨_, _, c, _⟩ => sqL c) ?_ ?_
      · refine ⟨by decide, fun q1 n1 => ⟨by decide, fun q2 n2 => ⟨by decide, fun q3 n3 => ⟨by show 3 ≤ sizeLine; decide, fun q4 n4 => k q4 _ _ ⟨upd_same, ?_, ?_⟩⟩⟩⟩⟩
        · intro i v hv
          match i, hv with
          | 0, hv =>
            cases hv
            exact ⟨q1, [3, 2], by decide, rfl, (((Gr.new n2).trans (.new n3)).trans (.new n4) : Ex _ _).get upd_same⟩
          | 1, hv =>
            cases hv
            exact ⟨q2, [3, 3], by decide, rfl, ((Gr.new n3).trans (.new n4) : Ex _ _).get upd_same⟩
          | 2, hv =>
            cases hv
            exact ⟨q3, [3, 2, 1], by decide, rfl, (Gr.new n4 : Ex _ _).get upd_same⟩
          | i + 3, hv => simp at hv
        · exact (((Gr.new n1).trans (.new n2)).trans (.new n3)).trans (.new n4)
      · rintro l2 vs2 i x σ' H3 hx ⟨y7, rfl, h3, h4, e3⟩
        obtain ⟨r, ls, hls, rfl, hr⟩ := h4 i x hx
        refine if_no (made_no (o := ⟨["w"], wideK p.1 p.2, folkK ls⟩) (ns := [1]) (List.all_eq_true.mp wd ls hls) (bda_cons (bd_t1 (bd_str _)) (bda_cons (bd_var rfl (d6.mono e3.any)) (bda_cons (bd_folkV rfl hr (by
          simp only [List.mem_cons, List.not_mem_nil, or_false] at hls
          rcases hls with rfl | rfl | rfl <;> decide)) bda_nil))) (bda_cons (bd_t1 (bd_int _)) bda_nil)) fun H4 e4 => ?_
        exact ⟨_, rfl, e4.get h3, h4.mono e4, e3.trans e4⟩
      · rintro l2 vs2 σ' H3 ⟨y7, rfl, h3, h4, e3⟩
        obtain ⟨b1, b2⟩ := Bool.and_eq_true_iff.mp bo
        refine seq_ord (o := ⟨["w", "p"], [⟨p.1, 1, [1, 2]⟩, ⟨p.2, 1, [2, 1]⟩], folkK [1, 1]⟩) (bda_cons (bd_t2 (bd_str _) (bd_str _)) (bda_cons (bd_t2 (bd_kd2 1 rfl) (bd_kd2 2 rfl)) (bda_cons (bd_folk (ns := [1, 1]) (fun _ _ _ k => k _ .refl) (by decide)) bda_nil))) (knB_ok b1).1 fun y8 H4 e4 O8 => ?_
        refine seq_ord (o := ⟨["w", "p"], [⟨p.1, 2, [1, 2]⟩, ⟨p.2, 2, [2, 1]⟩], folkK [1, 1]⟩) (bda_cons (bd_t2 (bd_str _) (bd_str _)) (bda_cons (bd_t2 (bd_kd2 1 rfl) (bd_kd2 2 rfl)) (bda_cons (bd_folk (ns := [1, 1]) (fun _ _ _ k => k _ .refl) (by decide)) bda_nil))) (knB_ok b2).1 fun y9 H5 e5 O9 => ?_
        refine yes_and (knYes (i := 8) rfl (O8.up e5 id) b1 (bda_cons (bd_t1 (bd_int _)) bda_nil)) (knYes (i := 9) rfl O9 b2 (bda_cons (bd_t1 (bd_int _)) bda_nil)) H5 _ .refl fun H6 e6 => ?_
        have G := (((((e.trans e2).trans e3).trans e4).trans e5).trans e6)
        exact q H6 (g1.trans G.x.of) (Tabs.gr T1 G)
end
end K11

namespace K11
open PySem PySem.Spec PyProof.Rows L2 Z ZE LamX
/-! ### defs whose code object is known -/
structure DfT (K : PySem.W.Frag) (mg : Str → Option Value) (x : Str) (st : Stmt) (c : Addr) : Prop where
  ex : ∃ f fd, mg x = some (.ref f) ∧ FunD K x x (defArgs st) (defBody st) (defScope st) [] [] f fd ∧ fd.code = .ref c
abbrev BodyGT (P : Program) (w : World) (K : PySem.W.Frag) (mg : Str → Option Value) (base : Heap) (k : Nat) (q : Str) (N : List Str) (st : Stmt) (c : Addr) (sp : Sp) : Prop :=
  ∀ (f : Addr) (A : Around) (outer : List Env) (s : Shared) (H : Hp) (vs : List V) (Q : VK) (E : XK), A.guards = some [] → Room k (A.deeper (envOfC q (defScope st) s.heap.objs.size f (.ref c))) → sp vs H Q E →
    ∃ t, PSs (cxOf (L2N.CX P w) P w K mg base N q (defScope st) f (.ref c) A outer s H E).nox (defBody st) t ∧ t { nx := fun _ H' => Q .non H', rt := Q } (L2.start N vs) H
theorem FunD.okGT {P : Program} {w : World} {K : PySem.W.Frag} {mg : Str → Option Value} {base : Heap} {x qual : Str} {params : Arguments} {body : List Stmt} {scope : Scope} {f c : Addr} {fd : FuncData} {N ps : List Str} {k : Nat} {sp : Sp} (F : FunD K x qual params body scope [] [] f fd) (hc : fd.code = .ref c) (S : FnScope N ps scope) (len : ∀ vs H Q E, sp vs H Q E → vs.length = ps.length)
    (hbody : ∀ (A : Around) (outer : List Env) (s : Shared) (H : Hp) (vs : List V) (Q : VK) (E : XK), A.guards = some [] → Room k (A.deeper (envOfC qual scope s.heap.objs.size f (.ref c))) → sp vs H Q E →
      ∃ t, PSs (cxOf (L2N.CX P w) P w K mg base N qual scope f (.ref c) A outer s H E).nox body t ∧ t { nx := fun _ H' => Q .non H', rt := Q } (L2.start N vs) H) : FnG P w K mg base (k + 1) f fd ps sp := by
  obtain ⟨oc, od, dV, kV, doc, pm, an, cdv, ct, osl, rfl, lk, hcd, _, _⟩ := F.ex
  have e : cdv = .ref c := hc
  subst e
  refine ⟨len, fun A outer s H args us vs Q E hgd hr e0 hb r hsp => ?_⟩
  refine LamX.run_ofS lk hcd S hr e0 hb r (len _ _ _ _ hsp) fun hr2 => ?_
  obtain ⟨t, h1, h2⟩ := hbody A outer s H vs Q E hgd hr2 hsp
  exact ⟨t, h1.nox, h2⟩
theorem DfT.calG {P : Program} {w : World} {K : PySem.W.Frag} {mg : Str → Option Value} {base : Heap} {x : Str} {st : Stmt} {N ps : List Str} {k : Nat} {c : Addr} {sp : Sp} (D : DfT K mg x st c) (S : FnScope N ps (defScope st)) (hb : Bnd x x st ps) (len : ∀ vs H Q E, sp vs H Q E → vs.length = ps.length)
    (body : BodyGT P w K mg base k x N st c sp) : CalG P w K mg base (k + 1) x ps sp := by
  obtain ⟨f, fd, hm, F, hc⟩ := D.ex
  exact ⟨f, fd, hm, F.kp, F.bindsN hb, FunD.okGT F hc S len fun A outer s H vs Q E hgd hr h => body f A outer s H vs Q E hgd hr h⟩
end K11

/-! the module's tuple of directions. -/
namespace K11
open PySem PySem.Spec PyProof.Rows L2 Z ZE
theorem pt_ok {K : PySem.W.Frag} {v : Value} {p : Pt} (h : ptB K v p = true) (H : Hp) : ∃ a, v = .ref a ∧ DT K H (.ref a) (ptD p) := by
  unfold ptB at h
  split at h
  · rename_i a
    refine ⟨a, rfl, ?_⟩
    split at h
    · rename_i c d its n sl hl
      rw [Bool.and_eq_true] at h
      obtain ⟨h1, h2⟩ := h
      split at h2
      · rename_i i t1 j t2 hi
        rw [Bool.and_eq_true] at h2
        have e1 := of_decide_eq_true h2.1
        have e2 := of_decide_eq_true h2.2
        have hz : its.size ≤ sizeLine := by
          rw [← Array.length_toList, hi]
          exact (by decide : 2 ≤ sizeLine)
        refine .tup (xs := [.int p.1, .int p.2]) (.inr ⟨_, its, n, hl, of_decide_eq_true h1, rfl, hz, ?_⟩) (.cons (.int _) (.cons (.int _) .nil))
        rw [hi, e1, e2]
        exact .cons ⟨_, rfl⟩ (.cons ⟨_, rfl⟩ .nil)
      · cases h2
    · cases h
  · cases h
theorem pts_okB {K : PySem.W.Frag} (H : Hp) : ∀ {vs : List Value} {ps : List Pt}, ptsB K vs ps = true → vs.length = ps.length ∧ ∃ xs, Vals xs vs ∧ DTs K H xs (ps.map ptD)
  | [], [], _ => ⟨rfl, [], .nil, .nil⟩
  | v :: vs, p :: ps, h => by
    unfold ptsB at h
    rw [Bool.and_eq_true] at h
    obtain ⟨a, rfl, h1⟩ := pt_ok h.1 H
    obtain ⟨hl, xs, h2, h3⟩ := pts_okB H h.2
    exact ⟨congrArg (· + 1) hl, .ref a :: xs, .cons rfl h2, .cons h1 h3⟩
  | [], _ :: _, h => by cases h
  | _ :: _, [], h => by cases h
theorem ax_ok {K : PySem.W.Frag} {a : Addr} (h : axB K a = true) : ∀ H : Hp, ∃ xs, SqT K H a xs ∧ DTs K H xs (axes.map ptD) := fun H => by
  unfold axB at h
  split at h
  · rename_i c d its n sl hl
    rw [Bool.and_eq_true] at h
    obtain ⟨hn, xs, h2, h3⟩ := pts_okB H h.2
    have hz : its.size ≤ sizeLine := by
      rw [← Array.length_toList, hn]
      exact (by decide : 4 ≤ sizeLine)
    exact ⟨xs, .inr ⟨_, its, n, hl, of_decide_eq_true h.1, rfl, hz, h2⟩, h3⟩
  · cases h
end K11

namespace K11
open PySem PySem.Spec PyProof.Rows L2 Z ZE LamX
local macro_rules | `(tactic| walk_at "rd") => `(tactic| try simp only [cxOf, tSeq, tIfS, tRet, tRetN, tAsg, tDrop, tNext, tBreak, tCont, tNever, tPar, tPar3, tAug, gName, gTup, gCons, gNil, gSub, tVar, tC, tOp, tUn, tCB, tBM, tBM0, tCons, tNil, tTest, tB, tAnd, tOr, tNot, tAndV, tOrV, tNotV, tIf, tChain,
  tTup, tLst, tCall, tMeth, tSl, tPart, tNoPart, tM1, tFmt, tJs_nil, tJs_cons, tCKw, rI0, rI, rU, rEq, rNe, scal_ii, scal_ss, scal_bb, ipI, iStr, iTup, iList, iRng1, sFld, tFld, L2.start, List.getElem?_cons_zero, List.getElem?_cons_succ, List.set_cons_zero, List.set_cons_succ, Option.some.injEq, V.int.injEq, V.bl.injEq, V.str.injEq, V.ref.injEq,
  List.cons.injEq, exists_and_left, exists_eq_left', exists_eq_left, exists_eq_right, exists_eq_right', exists_eq', exists_eq, and_true, true_and, and_self, List.map_cons, List.map_nil, List.length_cons, List.length_nil, List.replicate_succ, List.replicate_zero, List.cons_append, List.nil_append, List.append_nil,
  Nat.add_sub_cancel, Nat.reduceAdd, Nat.reduceSub, if_true, if_false, ite_true, ite_false, Bool.not_true, Bool.not_false, Bool.true_eq_false, Bool.false_eq_true, reduceIte, reduceCtorEq, false_and, exists_false, or_false, false_or, decide_true, decide_false, wipe])

section
variable {P : Program} {w : World} {K : PySem.W.Frag} {mg : Str → Option Value} {base : Heap} {C : Addr}
abbrev s_law : Stmt := topS 101
theorem sc_law : FnScope ["_law_cells", "_law_k"] ["_law_cells"] (defScope s_law) := ⟨rfl, rfl, rfl, by decide +kernel, rfl, by decide +kernel, by decide +kernel⟩
def spLaw (K : PySem.W.Frag) (T : List (Addr × Str)) : Sp := fun vs H Q _ => ∃ (a : Addr) (ns : List Int), vs = [.ref a] ∧ SqL K H a (ns.map V.int) ∧ ns.length ≤ 63 ∧ Tabs T H ∧ ∀ H', Q (.bl true) H'
theorem many_ok {M : Nat} {L : Int} (hM : 2 ≤ M) (h0 : 0 ≤ L) : ∃ n : Nat, n ≤ M ∧ (if (if ((M : Nat) : Int) < L then ((M : Nat) : Int) else L) > 2 then (if ((M : Nat) : Int) < L then ((M : Nat) : Int) else L) else 2) = (n : Int) := by
  by_cases h1 : ((M : Nat) : Int) < L
  · rw [if_pos h1]
    by_cases h2 : ((M : Nat) : Int) > 2
    · rw [if_pos h2]
      exact ⟨M, by omega, rfl⟩
    · rw [if_neg h2]
      exact ⟨2, hM, rfl⟩
  · rw [if_neg h1]
    by_cases h2 : L > 2
    · rw [if_pos h2]
      exact ⟨L.toNat, by omega, by omega⟩
    · rw [if_neg h2]
      exact ⟨2, hM, rfl⟩
theorem ok_law {c : Addr} {T : List (Addr × Str)} (B : Bl mg) (c_law_right : Cal P w K mg base 10 "_law_right" ["_law_jar_here"] (spRight T)) (c_law_jar : Cal P w K mg base 2 "_law_jar" ["_law_cells", "_law_spot"] (spJar K)) : BodyGT P w K mg base 18 "law" ["_law_cells", "_law_k"] s_law c (spLaw K T) := by
  intro f A outer s H vs Q E hgd hr h
  obtain ⟨a, ns, rfl, hS, hl, hT, q⟩ := h
  refine ⟨_, (pss_one (ps_ret (pe_callB (r := rAll K) (cr_all rfl) (by rfl) B.all_ (by decide +kernel) (pa_cons (pe_lc (own := [("_law_k", 1)]) (g := gName 1) rfl sc_law.nd (pi_range1 rfl B.range_ (pa_cons (pe_callB (call_max2 rfl) (by rfl) B.max_ (by decide +kernel) (pa_cons pe_int (pa_cons (pe_callB (call_min2 rfl) (by rfl) B.min_ (by decide +kernel) (pa_cons (pe_callB (r := rLenQ K) call_len_seq (by rfl) B.len_ PySem.boot_len (pa_cons (pv 0) pa_nil)) (pa_cons pe_int pa_nil))) pa_nil))) pa_nil)) (blkOk_by (N := ["_law_cells", "_law_k"]) (sc := defScope s_law) (by decide +kernel)) (fun _ _ _ _ _ => (pg_name (i := 1) sc_law.nd rfl (.inl rfl))) (fun _ _ _ _ _ => pts_nil) (fun _ _ _ _ _ => (pe_cal c_law_right hr (by decide) rfl (pa_cons (pe_cal c_law_jar hr (by decide) rfl (pa_cons (pv 0) (pa_cons (pv 1) pa_nil))) pa_nil)))) pa_nil)))), ?_⟩
  walk_at "rd"
  obtain ⟨n, hn6, hn⟩ := many_ok (M := 2) (L := ((ns.map V.int).length : Int)) (by decide) (by omega)
  refine lcTX n (fun R h => ⟨_, rfl, a, _, rfl, .inl hS, _, _, rfl, _, _, rfl, (show R [.int _] H from hn ▸ h)⟩) (by omega) hT ?_ ?_
  · intro i H8 Q' hi x8 T8 q'
    walk_at "rd"
    refine ⟨a, i, ns, rfl, x8.seqL hS id, hl, ⟨by omega, by omega⟩, fun p H9 e9 hp pl => ?_⟩
    exact ⟨p, rfl, pl, Tabs.gr T8 e9, fun H10 x10 T10 => q' H10 (Gx.fresh e9 hp x10) T10⟩
  · intro D1 H8 x8 T8 h1
    refine ⟨D1, List.replicate n true, rfl, sqL (by rw [h1, List.map_replicate]), ?_⟩
    have et : (List.replicate n true).all id = true := by simp
    rw [et]
    exact q H8
end
end K11

namespace K11
open PySem PySem.Spec PyProof.Rows L2 Z ZE LamX
theorem FnOk.calm {P : Program} {w : World} {K : PySem.W.Frag} {mg : Str → Option Value} {base : Heap} {k : Nat} {f : Addr} {fd : FuncData} {ps : List Str} {sp : Sp} (F : FnOk P w K mg base (L2N.CX P w) k f fd ps sp)
    (hsp : ∀ vs H Q E, sp vs H Q E → sp vs H Q E0) : FnOk P w K mg base L2.CX0 k f fd ps sp :=
  ⟨F.len, fun A outer s H args us vs Q E hr he hb hv hs => codeAny_mono (F.run A outer s H args us vs Q E0 hr he hb hv (hsp _ _ _ _ hs)) fun r s' hq => by
    cases r with
    | error er =>
      obtain ⟨_, _, _, _, _, _, _, _, _, _, _, _, z⟩ := (show L2N.CX P w outer H s E0 er s' from hq)
      exact z.elim
    | ok fl => cases fl with
      | ret u => exact hq
      | next => exact False.elim hq
      | brk => exact False.elim hq
      | cont => exact False.elim hq⟩
section
variable {P : Program} {w : World} {K : PySem.W.Frag} {mg : Str → Option Value} {base h : Heap}
theorem df_of {x : Str} {st : Stmt} (hm : mg x = some (.ref (He.ga K x))) (F : ∃ fd, FunD K x x (defArgs st) (defBody st) (defScope st) [] [] (He.ga K x) fd) : Df K mg x st := by
  obtain ⟨fd, F⟩ := F
  exact ⟨_, fd, hm, F⟩
theorem fun_of {a : Addr} {name qual : Str} {params : Arguments} {body : List Stmt} {scope : Scope} (hw : gW K a = some (name, qual, params, FuncBody.stmts body, scope, mainGlobals, [], builtinsNs)) (hb : gB K a qual = true) : ∃ fd, FunD K name qual params body scope [] [] a fd := by
  unfold gW at hw
  unfold gB at hb
  rw [Bool.and_eq_true] at hb
  obtain ⟨hb1, hb2⟩ := hb
  split at hw
  · rename_i oc od fd osl hl
    rw [hl] at hb2
    have hb3 : (PySem.W.codeIn K fd.code qual && decide (fd.defaults = .none)) = true := hb2
    rw [Bool.and_eq_true] at hb3
    have hd := of_decide_eq_true hb3.2
    cases fd
    simp only [Option.some.injEq, Prod.mk.injEq] at hw
    obtain ⟨rfl, rfl, rfl, rfl, rfl, rfl, rfl, rfl⟩ := hw
    have hd2 : _ = Value.none := hd
    subst hd2
    exact ⟨_, ⟨⟨_, _, _, _, _, _, _, _, _, _, rfl, hl, hb3.1, .inl ⟨rfl, rfl⟩, .inl rfl⟩, hb1⟩⟩
  · cases hw
theorem rec_of {p g : Addr} (h : recB K p g = true) : ∃ rest, PySem.W.recIn K p "property" = some (Value.ref g :: rest) := by
  unfold recB at h
  split at h
  · rename_i k rest e
    have := of_decide_eq_true h
    subst this
    exact ⟨rest, e⟩
  · cases h
theorem ex_at (e : ex K = true) (i : Nat) {b : Bool} (hb : (exs K)[i]? = some b) : b = true := by
  have := List.all_eq_true.mp e b (List.mem_of_getElem? hb)
  exact this
theorem df_is_integer (X : K.In h) (G : h.Ns mainGlobals mg) (c : He.SaysD fa fn K) : Df K mg "is_integer" s_is_integer := df_of (He.glo_ok X G (c.fact 13 (f := He.Fa.glo "is_integer") rfl)) (c.def_ 0 (d := ⟨("is_integer", none), "is_integer", "is_integer", defArgs s_is_integer, defBody s_is_integer, defScope s_is_integer, [], []⟩) rfl)
theorem df_is_number (X : K.In h) (G : h.Ns mainGlobals mg) (c : He.SaysD fa fn K) : Df K mg "is_number" s_is_number := df_of (He.glo_ok X G (c.fact 14 (f := He.Fa.glo "is_number") rfl)) (c.def_ 1 (d := ⟨("is_number", none), "is_number", "is_number", defArgs s_is_number, defBody s_is_number, defScope s_is_number, [], []⟩) rfl)
theorem df_check_number (X : K.In h) (G : h.Ns mainGlobals mg) (c : He.SaysD fa fn K) : Df K mg "check_number" s_check_number := df_of (He.glo_ok X G (c.fact 15 (f := He.Fa.glo "check_number") rfl)) (c.def_ 2 (d := ⟨("check_number", none), "check_number", "check_number", defArgs s_check_number, defBody s_check_number, defScope s_check_number, [], []⟩) rfl)
theorem df_is_integer_within (X : K.In h) (G : h.Ns mainGlobals mg) (c : He.SaysD fa fn K) : Df K mg "is_integer_within" s_is_integer_within := df_of (He.glo_ok X G (c.fact 16 (f := He.Fa.glo "is_integer_within") rfl)) (c.def_ 3 (d := ⟨("is_integer_within", none), "is_integer_within", "is_integer_within", defArgs s_is_integer_within, defBody s_is_integer_within, defScope s_is_integer_within, [], []⟩) rfl)
theorem df_is_tuple_of (X : K.In h) (G : h.Ns mainGlobals mg) (c : He.SaysD fa fn K) : Df K mg "is_tuple_of" s_is_tuple_of := df_of (He.glo_ok X G (c.fact 17 (f := He.Fa.glo "is_tuple_of") rfl)) (c.def_ 4 (d := ⟨("is_tuple_of", none), "is_tuple_of", "is_tuple_of", defArgs s_is_tuple_of, defBody s_is_tuple_of, defScope s_is_tuple_of, [], []⟩) rfl)
theorem df_is_name (X : K.In h) (G : h.Ns mainGlobals mg) (c : He.SaysD fa fn K) : Df K mg "is_name" s_is_name := df_of (He.glo_ok X G (c.fact 18 (f := He.Fa.glo "is_name") rfl)) (c.def_ 5 (d := ⟨("is_name", none), "is_name", "is_name", defArgs s_is_name, defBody s_is_name, defScope s_is_name, [], []⟩) rfl)
theorem df_check_order (X : K.In h) (G : h.Ns mainGlobals mg) (c : He.SaysD fa fn K) : Df K mg "check_order" s_check_order := df_of (He.glo_ok X G (c.fact 22 (f := He.Fa.glo "check_order") rfl)) (c.def_ 8 (d := ⟨("check_order", none), "check_order", "check_order", defArgs s_check_order, defBody s_check_order, defScope s_check_order, [], []⟩) rfl)
theorem df_all_shares (X : K.In h) (G : h.Ns mainGlobals mg) (c : He.SaysD fa fn K) : Df K mg "all_shares" s_all_shares := df_of (He.glo_ok X G (c.fact 23 (f := He.Fa.glo "all_shares") rfl)) (c.def_ 9 (d := ⟨("all_shares", none), "all_shares", "all_shares", defArgs s_all_shares, defBody s_all_shares, defScope s_all_shares, [], []⟩) rfl)
theorem df_are_worths (X : K.In h) (G : h.Ns mainGlobals mg) (c : He.SaysD fa fn K) : Df K mg "are_worths" s_are_worths := df_of (He.glo_ok X G (c.fact 24 (f := He.Fa.glo "are_worths") rfl)) (c.def_ 10 (d := ⟨("are_worths", none), "are_worths", "are_worths", defArgs s_are_worths, defBody s_are_worths, defScope s_are_worths, [], []⟩) rfl)
theorem df_check_measures (X : K.In h) (G : h.Ns mainGlobals mg) (c : He.SaysD fa fn K) : Df K mg "_check_measures" s_check_measures := df_of (He.glo_ok X G (c.fact 25 (f := He.Fa.glo "_check_measures") rfl)) (c.def_ 11 (d := ⟨("_check_measures", none), "_check_measures", "_check_measures", defArgs s_check_measures, defBody s_check_measures, defScope s_check_measures, [], []⟩) rfl)
theorem df_check_kinds (X : K.In h) (G : h.Ns mainGlobals mg) (c : He.SaysD fa fn K) : Df K mg "_check_kinds" s_check_kinds := df_of (He.glo_ok X G (c.fact 26 (f := He.Fa.glo "_check_kinds") rfl)) (c.def_ 12 (d := ⟨("_check_kinds", none), "_check_kinds", "_check_kinds", defArgs s_check_kinds, defBody s_check_kinds, defScope s_check_kinds, [], []⟩) rfl)
theorem df_check_people (X : K.In h) (G : h.Ns mainGlobals mg) (c : He.SaysD fa fn K) : Df K mg "_check_people" s_check_people := df_of (He.glo_ok X G (c.fact 27 (f := He.Fa.glo "_check_people") rfl)) (c.def_ 13 (d := ⟨("_check_people", none), "_check_people", "_check_people", defArgs s_check_people, defBody s_check_people, defScope s_check_people, [], []⟩) rfl)
theorem df_is_kind (X : K.In h) (G : h.Ns mainGlobals mg) (c : He.SaysD fa fn K) : Df K mg "_is_kind" s_is_kind := df_of (He.glo_ok X G (c.fact 28 (f := He.Fa.glo "_is_kind") rfl)) (c.def_ 14 (d := ⟨("_is_kind", none), "_is_kind", "_is_kind", defArgs s_is_kind, defBody s_is_kind, defScope s_is_kind, [], []⟩) rfl)
theorem df_is_person (X : K.In h) (G : h.Ns mainGlobals mg) (c : He.SaysD fa fn K) : Df K mg "_is_person" s_is_person := df_of (He.glo_ok X G (c.fact 29 (f := He.Fa.glo "_is_person") rfl)) (c.def_ 15 (d := ⟨("_is_person", none), "_is_person", "_is_person", defArgs s_is_person, defBody s_is_person, defScope s_is_person, [], []⟩) rfl)
theorem df_are_refused (X : K.In h) (G : h.Ns mainGlobals mg) (c : He.SaysD fa fn K) : Df K mg "_are_refused" s_are_refused := df_of (He.glo_ok X G (c.fact 30 (f := He.Fa.glo "_are_refused") rfl)) (c.def_ 16 (d := ⟨("_are_refused", none), "_are_refused", "_are_refused", defArgs s_are_refused, defBody s_are_refused, defScope s_are_refused, [], []⟩) rfl)
theorem df_most_people (X : K.In h) (G : h.Ns mainGlobals mg) (c : He.SaysD fa fn K) : Df K mg "_most_people" s_most_people := df_of (He.glo_ok X G (c.fact 31 (f := He.Fa.glo "_most_people") rfl)) (c.def_ 17 (d := ⟨("_most_people", none), "_most_people", "_most_people", defArgs s_most_people, defBody s_most_people, defScope s_most_people, [], []⟩) rfl)
theorem df_names (X : K.In h) (G : h.Ns mainGlobals mg) (c : He.SaysD fa fn K) : Df K mg "_names" s_names := df_of (He.glo_ok X G (c.fact 32 (f := He.Fa.glo "_names") rfl)) (c.def_ 18 (d := ⟨("_names", none), "_names", "_names", defArgs s_names, defBody s_names, defScope s_names, [], []⟩) rfl)
theorem df_text_of (X : K.In h) (G : h.Ns mainGlobals mg) (c : He.SaysD fa fn K) : Df K mg "_text_of" s_text_of := df_of (He.glo_ok X G (c.fact 33 (f := He.Fa.glo "_text_of") rfl)) (c.def_ 19 (d := ⟨("_text_of", none), "_text_of", "_text_of", defArgs s_text_of, defBody s_text_of, defScope s_text_of, [], []⟩) rfl)
theorem df_box_worth (X : K.In h) (G : h.Ns mainGlobals mg) (c : He.SaysD fa fn K) : Df K mg "_box_worth" s_box_worth := df_of (He.glo_ok X G (c.fact 34 (f := He.Fa.glo "_box_worth") rfl)) (c.def_ 20 (d := ⟨("_box_worth", none), "_box_worth", "_box_worth", defArgs s_box_worth, defBody s_box_worth, defScope s_box_worth, [], []⟩) rfl)
theorem df_parts (X : K.In h) (G : h.Ns mainGlobals mg) (c : He.SaysD fa fn K) : Df K mg "_parts" s_parts := df_of (He.glo_ok X G (c.fact 35 (f := He.Fa.glo "_parts") rfl)) (c.def_ 21 (d := ⟨("_parts", none), "_parts", "_parts", defArgs s_parts, defBody s_parts, defScope s_parts, [], []⟩) rfl)
theorem df_lowest (X : K.In h) (G : h.Ns mainGlobals mg) (c : He.SaysD fa fn K) : Df K mg "_lowest" s_lowest := df_of (He.glo_ok X G (c.fact 36 (f := He.Fa.glo "_lowest") rfl)) (c.def_ 22 (d := ⟨("_lowest", none), "_lowest", "_lowest", defArgs s_lowest, defBody s_lowest, defScope s_lowest, [], []⟩) rfl)
theorem df_whole_due (X : K.In h) (G : h.Ns mainGlobals mg) (c : He.SaysD fa fn K) : Df K mg "whole_due" s_whole_due := df_of (He.glo_ok X G (c.fact 37 (f := He.Fa.glo "whole_due") rfl)) (c.def_ 23 (d := ⟨("whole_due", none), "whole_due", "whole_due", defArgs s_whole_due, defBody s_whole_due, defScope s_whole_due, [], []⟩) rfl)
theorem df_point_of (X : K.In h) (G : h.Ns mainGlobals mg) (c : He.SaysD fa fn K) : Df K mg "point_of" s_point_of := df_of (He.glo_ok X G (c.fact 38 (f := He.Fa.glo "point_of") rfl)) (c.def_ 24 (d := ⟨("point_of", none), "point_of", "point_of", defArgs s_point_of, defBody s_point_of, defScope s_point_of, [], []⟩) rfl)
theorem df_takers (X : K.In h) (G : h.Ns mainGlobals mg) (c : He.SaysD fa fn K) : Df K mg "takers" s_takers := df_of (He.glo_ok X G (c.fact 39 (f := He.Fa.glo "takers") rfl)) (c.def_ 25 (d := ⟨("takers", none), "takers", "takers", defArgs s_takers, defBody s_takers, defScope s_takers, [], []⟩) rfl)
theorem df_points_of_things (X : K.In h) (G : h.Ns mainGlobals mg) (c : He.SaysD fa fn K) : Df K mg "points_of_things" s_points_of_things := df_of (He.glo_ok X G (c.fact 40 (f := He.Fa.glo "points_of_things") rfl)) (c.def_ 26 (d := ⟨("points_of_things", none), "points_of_things", "points_of_things", defArgs s_points_of_things, defBody s_points_of_things, defScope s_points_of_things, [], []⟩) rfl)
theorem df_sides (X : K.In h) (G : h.Ns mainGlobals mg) (c : He.SaysD fa fn K) : Df K mg "sides" s_sides := df_of (He.glo_ok X G (c.fact 41 (f := He.Fa.glo "sides") rfl)) (c.def_ 27 (d := ⟨("sides", none), "sides", "sides", defArgs s_sides, defBody s_sides, defScope s_sides, [], []⟩) rfl)
theorem df_steps_apart (X : K.In h) (G : h.Ns mainGlobals mg) (c : He.SaysD fa fn K) : Df K mg "steps_apart" s_steps_apart := df_of (He.glo_ok X G (c.fact 42 (f := He.Fa.glo "steps_apart") rfl)) (c.def_ 28 (d := ⟨("steps_apart", none), "steps_apart", "steps_apart", defArgs s_steps_apart, defBody s_steps_apart, defScope s_steps_apart, [], []⟩) rfl)
theorem df_common_divisor (X : K.In h) (G : h.Ns mainGlobals mg) (c : He.SaysD fa fn K) : Df K mg "common_divisor" s_common_divisor := df_of (He.glo_ok X G (c.fact 43 (f := He.Fa.glo "common_divisor") rfl)) (c.def_ 29 (d := ⟨("common_divisor", none), "common_divisor", "common_divisor", defArgs s_common_divisor, defBody s_common_divisor, defScope s_common_divisor, [], []⟩) rfl)
theorem df_points_of_kind (X : K.In h) (G : h.Ns mainGlobals mg) (c : He.SaysD fa fn K) : Df K mg "_points_of_kind" s_points_of_kind := df_of (He.glo_ok X G (c.fact 44 (f := He.Fa.glo "_points_of_kind") rfl)) (c.def_ 30 (d := ⟨("_points_of_kind", none), "_points_of_kind", "_points_of_kind", defArgs s_points_of_kind, defBody s_points_of_kind, defScope s_points_of_kind, [], []⟩) rfl)
theorem df_directions (X : K.In h) (G : h.Ns mainGlobals mg) (c : He.SaysD fa fn K) : Df K mg "_directions" s_directions := df_of (He.glo_ok X G (c.fact 45 (f := He.Fa.glo "_directions") rfl)) (c.def_ 31 (d := ⟨("_directions", none), "_directions", "_directions", defArgs s_directions, defBody s_directions, defScope s_directions, [], []⟩) rfl)
theorem df_along (X : K.In h) (G : h.Ns mainGlobals mg) (c : He.SaysD fa fn K) : Df K mg "_along" s_along := df_of (He.glo_ok X G (c.fact 46 (f := He.Fa.glo "_along") rfl)) (c.def_ 32 (d := ⟨("_along", none), "_along", "_along", defArgs s_along, defBody s_along, defScope s_along, [], []⟩) rfl)
theorem df_room (X : K.In h) (G : h.Ns mainGlobals mg) (c : He.SaysD fa fn K) : Df K mg "_room" s_room := df_of (He.glo_ok X G (c.fact 47 (f := He.Fa.glo "_room") rfl)) (c.def_ 33 (d := ⟨("_room", none), "_room", "_room", defArgs s_room, defBody s_room, defScope s_room, [], []⟩) rfl)
theorem df_reaching (X : K.In h) (G : h.Ns mainGlobals mg) (c : He.SaysD fa fn K) : Df K mg "_reaching" s_reaching := df_of (He.glo_ok X G (c.fact 48 (f := He.Fa.glo "_reaching") rfl)) (c.def_ 34 (d := ⟨("_reaching", none), "_reaching", "_reaching", defArgs s_reaching, defBody s_reaching, defScope s_reaching, [], []⟩) rfl)
theorem df_two_steps (X : K.In h) (G : h.Ns mainGlobals mg) (c : He.SaysD fa fn K) : Df K mg "_two_steps" s_two_steps := df_of (He.glo_ok X G (c.fact 49 (f := He.Fa.glo "_two_steps") rfl)) (c.def_ 35 (d := ⟨("_two_steps", none), "_two_steps", "_two_steps", defArgs s_two_steps, defBody s_two_steps, defScope s_two_steps, [], []⟩) rfl)
theorem df_ways (X : K.In h) (G : h.Ns mainGlobals mg) (c : He.SaysD fa fn K) : Df K mg "ways" s_ways := df_of (He.glo_ok X G (c.fact 50 (f := He.Fa.glo "ways") rfl)) (c.def_ 36 (d := ⟨("ways", none), "ways", "ways", defArgs s_ways, defBody s_ways, defScope s_ways, [], []⟩) rfl)
theorem df_fill (X : K.In h) (G : h.Ns mainGlobals mg) (c : He.SaysD fa fn K) : Df K mg "fill" s_fill := df_of (He.glo_ok X G (c.fact 51 (f := He.Fa.glo "fill") rfl)) (c.def_ 37 (d := ⟨("fill", none), "fill", "fill", defArgs s_fill, defBody s_fill, defScope s_fill, [], []⟩) rfl)
theorem df_row_across (X : K.In h) (G : h.Ns mainGlobals mg) (c : He.SaysD fa fn K) : Df K mg "_row_across" s_row_across := df_of (He.glo_ok X G (c.fact 52 (f := He.Fa.glo "_row_across") rfl)) (c.def_ 38 (d := ⟨("_row_across", none), "_row_across", "_row_across", defArgs s_row_across, defBody s_row_across, defScope s_row_across, [], []⟩) rfl)
theorem df_grids (X : K.In h) (G : h.Ns mainGlobals mg) (c : He.SaysD fa fn K) : Df K mg "_grids" s_grids := df_of (He.glo_ok X G (c.fact 53 (f := He.Fa.glo "_grids") rfl)) (c.def_ 39 (d := ⟨("_grids", none), "_grids", "_grids", defArgs s_grids, defBody s_grids, defScope s_grids, [], []⟩) rfl)
theorem df_given (X : K.In h) (G : h.Ns mainGlobals mg) (c : He.SaysD fa fn K) : Df K mg "_given" s_given := df_of (He.glo_ok X G (c.fact 54 (f := He.Fa.glo "_given") rfl)) (c.def_ 40 (d := ⟨("_given", none), "_given", "_given", defArgs s_given, defBody s_given, defScope s_given, [], []⟩) rfl)
theorem df_moved (X : K.In h) (G : h.Ns mainGlobals mg) (c : He.SaysD fa fn K) : Df K mg "_moved" s_moved := df_of (He.glo_ok X G (c.fact 55 (f := He.Fa.glo "_moved") rfl)) (c.def_ 41 (d := ⟨("_moved", none), "_moved", "_moved", defArgs s_moved, defBody s_moved, defScope s_moved, [], []⟩) rfl)
theorem df_joined (X : K.In h) (G : h.Ns mainGlobals mg) (c : He.SaysD fa fn K) : Df K mg "_joined" s_joined := df_of (He.glo_ok X G (c.fact 56 (f := He.Fa.glo "_joined") rfl)) (c.def_ 42 (d := ⟨("_joined", none), "_joined", "_joined", defArgs s_joined, defBody s_joined, defScope s_joined, [], []⟩) rfl)
theorem df_stands (X : K.In h) (G : h.Ns mainGlobals mg) (c : He.SaysD fa fn K) : Df K mg "_stands" s_stands := df_of (He.glo_ok X G (c.fact 57 (f := He.Fa.glo "_stands") rfl)) (c.def_ 43 (d := ⟨("_stands", none), "_stands", "_stands", defArgs s_stands, defBody s_stands, defScope s_stands, [], []⟩) rfl)
theorem df_step_back (X : K.In h) (G : h.Ns mainGlobals mg) (c : He.SaysD fa fn K) : Df K mg "_step_back" s_step_back := df_of (He.glo_ok X G (c.fact 58 (f := He.Fa.glo "_step_back") rfl)) (c.def_ 44 (d := ⟨("_step_back", none), "_step_back", "_step_back", defArgs s_step_back, defBody s_step_back, defScope s_step_back, [], []⟩) rfl)
theorem df_check_generators (X : K.In h) (G : h.Ns mainGlobals mg) (c : He.SaysD fa fn K) : Df K mg "_check_generators" s_check_generators := df_of (He.glo_ok X G (c.fact 60 (f := He.Fa.glo "_check_generators") rfl)) (c.def_ 48 (d := ⟨("_check_generators", none), "_check_generators", "_check_generators", defArgs s_check_generators, defBody s_check_generators, defScope s_check_generators, [], []⟩) rfl)
theorem df_least_generators (X : K.In h) (G : h.Ns mainGlobals mg) (c : He.SaysD fa fn K) : Df K mg "_least_generators" s_least_generators := df_of (He.glo_ok X G (c.fact 61 (f := He.Fa.glo "_least_generators") rfl)) (c.def_ 49 (d := ⟨("_least_generators", none), "_least_generators", "_least_generators", defArgs s_least_generators, defBody s_least_generators, defScope s_least_generators, [], []⟩) rfl)
theorem df_with_multiples (X : K.In h) (G : h.Ns mainGlobals mg) (c : He.SaysD fa fn K) : Df K mg "_with_multiples" s_with_multiples := df_of (He.glo_ok X G (c.fact 62 (f := He.Fa.glo "_with_multiples") rfl)) (c.def_ 50 (d := ⟨("_with_multiples", none), "_with_multiples", "_with_multiples", defArgs s_with_multiples, defBody s_with_multiples, defScope s_with_multiples, [], []⟩) rfl)
theorem df_has_bit (X : K.In h) (G : h.Ns mainGlobals mg) (c : He.SaysD fa fn K) : Df K mg "_has_bit" s_has_bit := df_of (He.glo_ok X G (c.fact 63 (f := He.Fa.glo "_has_bit") rfl)) (c.def_ 51 (d := ⟨("_has_bit", none), "_has_bit", "_has_bit", defArgs s_has_bit, defBody s_has_bit, defScope s_has_bit, [], []⟩) rfl)
theorem df_greatest_divisor (X : K.In h) (G : h.Ns mainGlobals mg) (c : He.SaysD fa fn K) : Df K mg "_greatest_divisor" s_greatest_divisor := df_of (He.glo_ok X G (c.fact 64 (f := He.Fa.glo "_greatest_divisor") rfl)) (c.def_ 52 (d := ⟨("_greatest_divisor", none), "_greatest_divisor", "_greatest_divisor", defArgs s_greatest_divisor, defBody s_greatest_divisor, defScope s_greatest_divisor, [], []⟩) rfl)
theorem df_leasts_by_first (X : K.In h) (G : h.Ns mainGlobals mg) (c : He.SaysD fa fn K) : Df K mg "_leasts_by_first" s_leasts_by_first := df_of (He.glo_ok X G (c.fact 65 (f := He.Fa.glo "_leasts_by_first") rfl)) (c.def_ 53 (d := ⟨("_leasts_by_first", none), "_leasts_by_first", "_leasts_by_first", defArgs s_leasts_by_first, defBody s_leasts_by_first, defScope s_leasts_by_first, [], []⟩) rfl)
theorem df_leasts (X : K.In h) (G : h.Ns mainGlobals mg) (c : He.SaysD fa fn K) : Df K mg "_leasts" s_leasts := df_of (He.glo_ok X G (c.fact 66 (f := He.Fa.glo "_leasts") rfl)) (c.def_ 54 (d := ⟨("_leasts", none), "_leasts", "_leasts", defArgs s_leasts, defBody s_leasts, defScope s_leasts, [], []⟩) rfl)
theorem df_holds (X : K.In h) (G : h.Ns mainGlobals mg) (c : He.SaysD fa fn K) : Df K mg "_holds" s_holds := df_of (He.glo_ok X G (c.fact 67 (f := He.Fa.glo "_holds") rfl)) (c.def_ 55 (d := ⟨("_holds", none), "_holds", "_holds", defArgs s_holds, defBody s_holds, defScope s_holds, [], []⟩) rfl)
theorem df_possible (X : K.In h) (G : h.Ns mainGlobals mg) (c : He.SaysD fa fn K) : Df K mg "possible" s_possible := df_of (He.glo_ok X G (c.fact 68 (f := He.Fa.glo "possible") rfl)) (c.def_ 56 (d := ⟨("possible", none), "possible", "possible", defArgs s_possible, defBody s_possible, defScope s_possible, [], []⟩) rfl)
theorem df_possible0 (X : K.In h) (G : h.Ns mainGlobals mg) (c : He.SaysD fa fn K) : Df K mg "_possible" s_possible0 := df_of (He.glo_ok X G (c.fact 69 (f := He.Fa.glo "_possible") rfl)) (c.def_ 57 (d := ⟨("_possible", none), "_possible", "_possible", defArgs s_possible0, defBody s_possible0, defScope s_possible0, [], []⟩) rfl)
theorem df_law_cell (X : K.In h) (G : h.Ns mainGlobals mg) (c : He.SaysD fa fn K) : Df K mg "_law_cell" s_law_cell := df_of (He.glo_ok X G (c.fact 70 (f := He.Fa.glo "_law_cell") rfl)) (c.def_ 58 (d := ⟨("_law_cell", none), "_law_cell", "_law_cell", defArgs s_law_cell, defBody s_law_cell, defScope s_law_cell, [], []⟩) rfl)
theorem df_law_jar (X : K.In h) (G : h.Ns mainGlobals mg) (c : He.SaysD fa fn K) : Df K mg "_law_jar" s_law_jar := df_of (He.glo_ok X G (c.fact 71 (f := He.Fa.glo "_law_jar") rfl)) (c.def_ 59 (d := ⟨("_law_jar", none), "_law_jar", "_law_jar", defArgs s_law_jar, defBody s_law_jar, defScope s_law_jar, [], []⟩) rfl)
theorem df_law_dig (X : K.In h) (G : h.Ns mainGlobals mg) (c : He.SaysD fa fn K) : Df K mg "_law_dig" s_law_dig := df_of (He.glo_ok X G (c.fact 72 (f := He.Fa.glo "_law_dig") rfl)) (c.def_ 60 (d := ⟨("_law_dig", none), "_law_dig", "_law_dig", defArgs s_law_dig, defBody s_law_dig, defScope s_law_dig, [], []⟩) rfl)
theorem df_law_take (X : K.In h) (G : h.Ns mainGlobals mg) (c : He.SaysD fa fn K) : Df K mg "_law_take" s_law_take := df_of (He.glo_ok X G (c.fact 73 (f := He.Fa.glo "_law_take") rfl)) (c.def_ 61 (d := ⟨("_law_take", none), "_law_take", "_law_take", defArgs s_law_take, defBody s_law_take, defScope s_law_take, [], []⟩) rfl)
theorem df_law_folk (X : K.In h) (G : h.Ns mainGlobals mg) (c : He.SaysD fa fn K) : Df K mg "_law_folk" s_law_folk := df_of (He.glo_ok X G (c.fact 74 (f := He.Fa.glo "_law_folk") rfl)) (c.def_ 62 (d := ⟨("_law_folk", none), "_law_folk", "_law_folk", defArgs s_law_folk, defBody s_law_folk, defScope s_law_folk, [], []⟩) rfl)
theorem df_law_known (X : K.In h) (G : h.Ns mainGlobals mg) (c : He.SaysD fa fn K) : Df K mg "_law_known" s_law_known := df_of (He.glo_ok X G (c.fact 75 (f := He.Fa.glo "_law_known") rfl)) (c.def_ 63 (d := ⟨("_law_known", none), "_law_known", "_law_known", defArgs s_law_known, defBody s_law_known, defScope s_law_known, [], []⟩) rfl)
theorem df_law_right (X : K.In h) (G : h.Ns mainGlobals mg) (c : He.SaysD fa fn K) : Df K mg "_law_right" s_law_right := df_of (He.glo_ok X G (c.fact 76 (f := He.Fa.glo "_law_right") rfl)) (c.def_ 64 (d := ⟨("_law_right", none), "_law_right", "_law_right", defArgs s_law_right, defBody s_law_right, defScope s_law_right, [], []⟩) rfl)
theorem df_law (X : K.In h) (G : h.Ns mainGlobals mg) (c : He.SaysD fa fn K) : Df K mg "law" s_law := df_of (He.glo_ok X G (c.fact 77 (f := He.Fa.glo "law") rfl)) (c.def_ 65 (d := ⟨("law", none), "law", "law", defArgs s_law, defBody s_law, defScope s_law, [], []⟩) rfl)
theorem bl_of (X : K.In h) (G : h.Ns mainGlobals mg) (c : He.SaysD fa fn K) : Bl mg := ⟨(He.free_ok X G (c.fact 78 (f := He.Fa.free "isinstance") rfl)), (He.free_ok X G (c.fact 79 (f := He.Fa.free "len") rfl)), (He.free_ok X G (c.fact 80 (f := He.Fa.free "all") rfl)), (He.free_ok X G (c.fact 81 (f := He.Fa.free "any") rfl)), (He.free_ok X G (c.fact 82 (f := He.Fa.free "enumerate") rfl)), (He.free_ok X G (c.fact 83 (f := He.Fa.free "tuple") rfl)), (He.free_ok X G (c.fact 84 (f := He.Fa.free "list") rfl)), (He.free_ok X G (c.fact 85 (f := He.Fa.free "dict") rfl)), (He.free_ok X G (c.fact 86 (f := He.Fa.free "sum") rfl)), (He.free_ok X G (c.fact 87 (f := He.Fa.free "range") rfl)), (He.free_ok X G (c.fact 88 (f := He.Fa.free "int") rfl)), (He.free_ok X G (c.fact 89 (f := He.Fa.free "str") rfl)), (He.free_ok X G (c.fact 90 (f := He.Fa.free "bool") rfl)), (He.free_ok X G (c.fact 91 (f := He.Fa.free "abs") rfl)), (He.free_ok X G (c.fact 92 (f := He.Fa.free "min") rfl)), (He.free_ok X G (c.fact 93 (f := He.Fa.free "max") rfl)), (He.free_ok X G (c.fact 94 (f := He.Fa.free "divmod") rfl)), (He.free_ok X G (c.fact 95 (f := He.Fa.free "repr") rfl)), (He.free_ok X G (c.fact 96 (f := He.Fa.free "sorted") rfl)), (He.free_ok X G (c.fact 97 (f := He.Fa.free "zip") rfl)), (He.free_ok X G (c.fact 98 (f := He.Fa.free "reversed") rfl)), (He.free_ok X G (c.fact 99 (f := He.Fa.free "set") rfl))⟩
theorem cls_of (c : He.SaysD fa fn K) : Cls K (He.ga K "Numbers") := He.cls_ok (c.fact 100 (f := He.Fa.cls "Numbers") rfl)
theorem isc_of (e : ex K = true) : IsC K (He.ga K "Numbers") := ⟨He.eqO_ok (ex_at e 3 rfl), of_decide_eq_true (ex_at e 4 rfl), of_decide_eq_true (ex_at e 5 rfl), of_decide_eq_true (ex_at e 2 rfl)⟩
theorem nec_of (e : ex K = true) : NeC K (He.ga K "Numbers") := ⟨He.eqO_ok (ex_at e 1 rfl), of_decide_eq_true (ex_at e 2 rfl)⟩
theorem numc_of (e : ex K = true) (c : He.SaysD fa fn K) : NumC K (He.ga K "Numbers") := ⟨cls_of c, He.noat_ok (c.fact 104 (f := He.Fa.noat "Numbers" "_generators") rfl), He.noat_ok (c.fact 105 (f := He.Fa.noat "Numbers" "_divisor") rfl), He.noat_ok (c.fact 106 (f := He.Fa.noat "Numbers" "_leasts") rfl), isc_of e, nec_of e⟩
theorem g_gcd_of (X : K.In h) (G : h.Ns mainGlobals mg) (e : ex K = true) : mg "gcd" = some (.builtin "math.gcd") := PySem.W.mg_of X G (of_decide_eq_true (ex_at e 0 rfl))
theorem dm_contains (X : K.In h) (G : h.Ns mainGlobals mg) (c : He.SaysD fa fn K) : Dm K (He.ga K "Numbers") "__contains__" "Numbers.__contains__" s_Numbers__contains := by
  obtain ⟨fd, F⟩ := (c.def_ 46 (d := ⟨("Numbers", (some "__contains__")), "__contains__", "Numbers.__contains__", defArgs s_Numbers__contains, defBody s_Numbers__contains, defScope s_Numbers__contains, [], []⟩) rfl)
  exact ⟨_, fd, cls_of c, He.meth_ok (c.fact 102 (f := He.Fa.meth "Numbers" "__contains__") rfl), F⟩
theorem dm_eq (X : K.In h) (G : h.Ns mainGlobals mg) (c : He.SaysD fa fn K) : Dm K (He.ga K "Numbers") "__eq__" "Numbers.__eq__" s_Numbers__eq := by
  obtain ⟨fd, F⟩ := (c.def_ 47 (d := ⟨("Numbers", (some "__eq__")), "__eq__", "Numbers.__eq__", defArgs s_Numbers__eq, defBody s_Numbers__eq, defScope s_Numbers__eq, [], []⟩) rfl)
  exact ⟨_, fd, cls_of c, He.meth_ok (c.fact 103 (f := He.Fa.meth "Numbers" "__eq__") rfl), F⟩
theorem prp_generators (e : ex K = true) (hw : gws K = gvs) (c : He.SaysD fa fn K) : Prp P w K mg base 1 (He.ga K "Numbers") "generators" "_generators" := by
  have hg : gW K (gA_generators K) = _ := (List.getElem?_eq_some_iff.mp (show (gvs)[0]? = some (gW K (gA_generators K)) from hw ▸ rfl)).2.symm
  obtain ⟨fd, F⟩ := fun_of (K := K) (a := gA_generators K) hg (ex_at e 10 rfl)
  have hb := F.bindsN (ps := ["self"]) fun _ _ _ _ _ _ us hl => match us, hl with | [_], _ => rfl
  obtain ⟨oc, od, dV, kV, doc, pm, an, cdv, ct, osl, rfl, lk, code, _, _⟩ := F.ex
  exact ⟨pA_generators K, gA_generators K, _, He.cls_ok (c.fact 100 (f := He.Fa.cls "Numbers") rfl), ⟨He.eqO_ok (ex_at e 6 rfl), of_decide_eq_true (ex_at e 7 rfl), of_decide_eq_true (ex_at e 8 rfl), rec_of (ex_at e 9 rfl)⟩, hb, fn_getter (N := ["self"]) lk code ⟨rfl, rfl, rfl, by decide +kernel, rfl, by decide +kernel, by decide +kernel⟩ rfl rfl (He.cls_ok (c.fact 100 (f := He.Fa.cls "Numbers") rfl)) (He.noat_ok (c.fact 104 (f := He.Fa.noat "Numbers" "_generators") rfl))⟩
theorem prp_divisor (e : ex K = true) (hw : gws K = gvs) (c : He.SaysD fa fn K) : Prp P w K mg base 1 (He.ga K "Numbers") "divisor" "_divisor" := by
  have hg : gW K (gA_divisor K) = _ := (List.getElem?_eq_some_iff.mp (show (gvs)[1]? = some (gW K (gA_divisor K)) from hw ▸ rfl)).2.symm
  obtain ⟨fd, F⟩ := fun_of (K := K) (a := gA_divisor K) hg (ex_at e 15 rfl)
  have hb := F.bindsN (ps := ["self"]) fun _ _ _ _ _ _ us hl => match us, hl with | [_], _ => rfl
  obtain ⟨oc, od, dV, kV, doc, pm, an, cdv, ct, osl, rfl, lk, code, _, _⟩ := F.ex
  exact ⟨pA_divisor K, gA_divisor K, _, He.cls_ok (c.fact 100 (f := He.Fa.cls "Numbers") rfl), ⟨He.eqO_ok (ex_at e 11 rfl), of_decide_eq_true (ex_at e 12 rfl), of_decide_eq_true (ex_at e 13 rfl), rec_of (ex_at e 14 rfl)⟩, hb, fn_getter (N := ["self"]) lk code ⟨rfl, rfl, rfl, by decide +kernel, rfl, by decide +kernel, by decide +kernel⟩ rfl rfl (He.cls_ok (c.fact 100 (f := He.Fa.cls "Numbers") rfl)) (He.noat_ok (c.fact 105 (f := He.Fa.noat "Numbers" "_divisor") rfl))⟩
theorem prp_measures (e : ex K = true) (hw : gws K = gvs) (c : He.SaysD fa fn K) : Prp P w K mg base 1 (He.ga K "Order") "measures" "_measures" := by
  have hg : gW K (gA_measures K) = _ := (List.getElem?_eq_some_iff.mp (show (gvs)[2]? = some (gW K (gA_measures K)) from hw ▸ rfl)).2.symm
  obtain ⟨fd, F⟩ := fun_of (K := K) (a := gA_measures K) hg (ex_at e 20 rfl)
  have hb := F.bindsN (ps := ["self"]) fun _ _ _ _ _ _ us hl => match us, hl with | [_], _ => rfl
  obtain ⟨oc, od, dV, kV, doc, pm, an, cdv, ct, osl, rfl, lk, code, _, _⟩ := F.ex
  exact ⟨pA_measures K, gA_measures K, _, He.cls_ok (c.fact 107 (f := He.Fa.cls "Order") rfl), ⟨He.eqO_ok (ex_at e 16 rfl), of_decide_eq_true (ex_at e 17 rfl), of_decide_eq_true (ex_at e 18 rfl), rec_of (ex_at e 19 rfl)⟩, hb, fn_getter (N := ["self"]) lk code ⟨rfl, rfl, rfl, by decide +kernel, rfl, by decide +kernel, by decide +kernel⟩ rfl rfl (He.cls_ok (c.fact 107 (f := He.Fa.cls "Order") rfl)) (He.noat_ok (c.fact 109 (f := He.Fa.noat "Order" "_measures") rfl))⟩
theorem prp_kinds (e : ex K = true) (hw : gws K = gvs) (c : He.SaysD fa fn K) : Prp P w K mg base 1 (He.ga K "Order") "kinds" "_kinds" := by
  have hg : gW K (gA_kinds K) = _ := (List.getElem?_eq_some_iff.mp (show (gvs)[3]? = some (gW K (gA_kinds K)) from hw ▸ rfl)).2.symm
  obtain ⟨fd, F⟩ := fun_of (K := K) (a := gA_kinds K) hg (ex_at e 25 rfl)
  have hb := F.bindsN (ps := ["self"]) fun _ _ _ _ _ _ us hl => match us, hl with | [_], _ => rfl
  obtain ⟨oc, od, dV, kV, doc, pm, an, cdv, ct, osl, rfl, lk, code, _, _⟩ := F.ex
  exact ⟨pA_kinds K, gA_kinds K, _, He.cls_ok (c.fact 107 (f := He.Fa.cls "Order") rfl), ⟨He.eqO_ok (ex_at e 21 rfl), of_decide_eq_true (ex_at e 22 rfl), of_decide_eq_true (ex_at e 23 rfl), rec_of (ex_at e 24 rfl)⟩, hb, fn_getter (N := ["self"]) lk code ⟨rfl, rfl, rfl, by decide +kernel, rfl, by decide +kernel, by decide +kernel⟩ rfl rfl (He.cls_ok (c.fact 107 (f := He.Fa.cls "Order") rfl)) (He.noat_ok (c.fact 110 (f := He.Fa.noat "Order" "_kinds") rfl))⟩
theorem prp_people (e : ex K = true) (hw : gws K = gvs) (c : He.SaysD fa fn K) : Prp P w K mg base 1 (He.ga K "Order") "people" "_people" := by
  have hg : gW K (gA_people K) = _ := (List.getElem?_eq_some_iff.mp (show (gvs)[4]? = some (gW K (gA_people K)) from hw ▸ rfl)).2.symm
  obtain ⟨fd, F⟩ := fun_of (K := K) (a := gA_people K) hg (ex_at e 30 rfl)
  have hb := F.bindsN (ps := ["self"]) fun _ _ _ _ _ _ us hl => match us, hl with | [_], _ => rfl
  obtain ⟨oc, od, dV, kV, doc, pm, an, cdv, ct, osl, rfl, lk, code, _, _⟩ := F.ex
  exact ⟨pA_people K, gA_people K, _, He.cls_ok (c.fact 107 (f := He.Fa.cls "Order") rfl), ⟨He.eqO_ok (ex_at e 26 rfl), of_decide_eq_true (ex_at e 27 rfl), of_decide_eq_true (ex_at e 28 rfl), rec_of (ex_at e 29 rfl)⟩, hb, fn_getter (N := ["self"]) lk code ⟨rfl, rfl, rfl, by decide +kernel, rfl, by decide +kernel, by decide +kernel⟩ rfl rfl (He.cls_ok (c.fact 107 (f := He.Fa.cls "Order") rfl)) (He.noat_ok (c.fact 111 (f := He.Fa.noat "Order" "_people") rfl))⟩
theorem mk_of (X : K.In h) (G : h.Ns mainGlobals mg) (c : He.SaysD fa fn K) (body : Body P w K mg base 3 "Numbers.__init__" ["self", "generators"] s_Numbers__init (spInit K (He.ga K "Numbers"))) : Mkr P w K mg base 4 "Numbers" (He.ga K "Numbers") ["self", "generators"] (spInit K (He.ga K "Numbers")) := by
  obtain ⟨fd, F⟩ := (c.def_ 45 (d := ⟨("Numbers", (some "__init__")), "__init__", "Numbers.__init__", defArgs s_Numbers__init, defBody s_Numbers__init, defScope s_Numbers__init, [.adr dA], []⟩) rfl)
  obtain ⟨ds, h1, h2⟩ := L2.FunD.binds1 (ps := ["self", "generators"]) F 2 1 (by simp [He.DefD.dvs]) (by simp [He.DefD.dvs]) (fun T kV doc pm an cdv ct us its hu hi => match us, its, hu, hi with
    | [_, _], [_], _, _ => ⟨_, rfl, rfl⟩)
  have hds : ds = [] := by
    cases h1
    rfl
  subst hds
  refine ⟨_, fd, He.glo_ok X G (c.fact 59 (f := He.Fa.glo "Numbers") rfl), He.mkr_ok (c.fact 101 (f := He.Fa.mkr "Numbers") rfl), h2, F.ok sc_Numbers__init (fun vs H Q E h => ?_) fun cdv A outer s H vs Q E hr h => ?_⟩
  · obtain ⟨x, dx, a, ns, rfl, _⟩ := h
    rfl
  · obtain ⟨t, h1, h2⟩ := body _ cdv A outer s H vs Q E hr h
    exact ⟨t, h1.nox, h2⟩
theorem dE_of (e : ex K = true) : ∀ H : Hp, SqT K H (dA K) [] := by
  have h := ex_at e 31 rfl
  unfold tupE at h
  split at h
  · rename_i c d its n sl hl
    rw [Bool.and_eq_true] at h
    have hz : its.toList = [] := by
      have := of_decide_eq_true h.2
      exact List.length_eq_zero_iff.mp (by rw [Array.length_toList]; exact this)
    exact fun H => .inr ⟨_, its, n, hl, of_decide_eq_true h.1, rfl, by rw [of_decide_eq_true h.2]; exact Nat.zero_le _, by rw [hz]; exact .nil⟩
  · cases h
theorem mk0_of (X : K.In h) (G : h.Ns mainGlobals mg) (c : He.SaysD fa fn K) (body : Body P w K mg base 3 "Numbers.__init__" ["self", "generators"] s_Numbers__init (spInit K (He.ga K "Numbers"))) : MkD P w K mg base 4 "Numbers" (He.ga K "Numbers") ["self", "generators"] (spInit K (He.ga K "Numbers")) (.ref (dA K)) := by
  obtain ⟨fd, F⟩ := (c.def_ 45 (d := ⟨("Numbers", (some "__init__")), "__init__", "Numbers.__init__", defArgs s_Numbers__init, defBody s_Numbers__init, defScope s_Numbers__init, [.adr dA], []⟩) rfl)
  obtain ⟨ds, h1, h2⟩ := L2.FunD.binds1 (ps := ["self", "generators"]) F 1 0 (by simp [He.DefD.dvs]) (by simp [He.DefD.dvs]) (fun T kV doc pm an cdv ct us its hu hi => match us, its, hu, hi with
    | [_], [_], _, _ => ⟨_, rfl, rfl⟩)
  refine ⟨_, fd, ds, He.glo_ok X G (c.fact 59 (f := He.Fa.glo "Numbers") rfl), He.mkr_ok (c.fact 101 (f := He.Fa.mkr "Numbers") rfl), h2, h1, F.ok sc_Numbers__init (fun vs H Q E h => ?_) fun cdv A outer s H vs Q E hr h => ?_⟩
  · obtain ⟨x, dx, a, ns, rfl, _⟩ := h
    rfl
  · obtain ⟨t, h1, h2⟩ := body _ cdv A outer s H vs Q E hr h
    exact ⟨t, h1.nox, h2⟩
theorem er_InvalidNumber_of (X : K.In h) (G : h.Ns mainGlobals mg) (e : ex K = true) (hw : gws K = gvs) (c : He.SaysD fa fn K) : PySem.ErrG.ErTxt K mg "InvalidNumber" "InvalidNumber.__init__" (He.ga K "InvalidNumber") (iAd K (He.ga K "InvalidNumber")) := by
  have hg : gW K (iAd K (He.ga K "InvalidNumber")) = _ := (List.getElem?_eq_some_iff.mp (show (gvs)[5]? = some (gW K (iAd K (He.ga K "InvalidNumber"))) from hw ▸ rfl)).2.symm
  obtain ⟨fd, F⟩ := fun_of (K := K) (a := iAd K (He.ga K "InvalidNumber")) hg (ex_at e 33 rfl)
  exact PySem.ErrG.er_of (He.glo_ok X G (c.fact 0 (f := He.Fa.glo "InvalidNumber") rfl)) F (ex_at e 32 rfl)
theorem er_NotAnOrder_of (X : K.In h) (G : h.Ns mainGlobals mg) (e : ex K = true) (hw : gws K = gvs) (c : He.SaysD fa fn K) : PySem.ErrG.ErTxt K mg "NotAnOrder" "NotAnOrder.__init__" (He.ga K "NotAnOrder") (iAd K (He.ga K "NotAnOrder")) := by
  have hg : gW K (iAd K (He.ga K "NotAnOrder")) = _ := (List.getElem?_eq_some_iff.mp (show (gvs)[6]? = some (gW K (iAd K (He.ga K "NotAnOrder"))) from hw ▸ rfl)).2.symm
  obtain ⟨fd, F⟩ := fun_of (K := K) (a := iAd K (He.ga K "NotAnOrder")) hg (ex_at e 35 rfl)
  exact PySem.ErrG.er_of (He.glo_ok X G (c.fact 1 (f := He.Fa.glo "NotAnOrder") rfl)) F (ex_at e 34 rfl)
theorem er_TooMany_of (X : K.In h) (G : h.Ns mainGlobals mg) (e : ex K = true) (hw : gws K = gvs) (c : He.SaysD fa fn K) : PySem.ErrL.ErTxt K mg "TooMany" "TooMany.__init__" (He.ga K "TooMany") (iAd K (He.ga K "TooMany")) := by
  have hg : gW K (iAd K (He.ga K "TooMany")) = _ := (List.getElem?_eq_some_iff.mp (show (gvs)[7]? = some (gW K (iAd K (He.ga K "TooMany"))) from hw ▸ rfl)).2.symm
  obtain ⟨fd, F⟩ := fun_of (K := K) (a := iAd K (He.ga K "TooMany")) hg (ex_at e 37 rfl)
  exact PySem.ErrL.er_of (He.glo_ok X G (c.fact 2 (f := He.Fa.glo "TooMany") rfl)) F (ex_at e 36 rfl)
theorem dft_of {x : Str} {st : Stmt} (hm : mg x = some (.ref (He.ga K x))) (F : ∃ fd, FunD K x x (defArgs st) (defBody st) (defScope st) [] [] (He.ga K x) fd) : DfT K mg x st (He.cT K (x, none)).1 := by
  obtain ⟨fd, F⟩ := F
  have F2 := F
  obtain ⟨oc, od, dV, kV, doc, pm, an, cdv, ct, osl, rfl, lk, hcd, h4, h5⟩ := F.ex
  obtain ⟨c, rfl⟩ := He.codeIn_ref hcd
  refine ⟨_, _, hm, F2, ?_⟩
  show Value.ref c = .ref (He.codeOf K (x, none))
  rw [He.codeOf_eq (p := (x, none)) lk rfl]
theorem dft_law (X : K.In h) (G : h.Ns mainGlobals mg) (c : He.SaysD fa fn K) : DfT K mg "law" s_law (He.cT K ("law", none)).1 := dft_of (He.glo_ok X G (c.fact 77 (f := He.Fa.glo "law") rfl)) (c.def_ 65 (d := ⟨("law", none), "law", "law", defArgs s_law, defBody s_law, defScope s_law, [], []⟩) rfl)
theorem ordc_of (c : He.SaysD fa fn K) : OrdC K (He.ga K "Order") := ⟨He.cls_ok (c.fact 107 (f := He.Fa.cls "Order") rfl), He.noat_ok (c.fact 109 (f := He.Fa.noat "Order" "_measures") rfl), He.noat_ok (c.fact 110 (f := He.Fa.noat "Order" "_kinds") rfl), He.noat_ok (c.fact 111 (f := He.Fa.noat "Order" "_people") rfl), He.noat_ok (c.fact 112 (f := He.Fa.noat "Order" "_text") rfl)⟩
theorem isco_of (e : ex K = true) : IsC K (He.ga K "Order") := ⟨He.eqO_ok (ex_at e 39 rfl), of_decide_eq_true (ex_at e 4 rfl), of_decide_eq_true (ex_at e 5 rfl), of_decide_eq_true (ex_at e 38 rfl)⟩
theorem di_Order (X : K.In h) (G : h.Ns mainGlobals mg) (c : He.SaysD fa fn K) : Di K mg "Order" "Order.__init__" (He.ga K "Order") s_Order__init := by
  obtain ⟨fd, F⟩ := (c.def_ 6 (d := ⟨("Order", (some "__init__")), "__init__", "Order.__init__", defArgs s_Order__init, defBody s_Order__init, defScope s_Order__init, [], []⟩) rfl)
  exact ⟨_, fd, He.glo_ok X G (c.fact 21 (f := He.Fa.glo "Order") rfl), He.mkr_ok (c.fact 108 (f := He.Fa.mkr "Order") rfl), F⟩
theorem dm_O_due (c : He.SaysD fa fn K) : Dm K (He.ga K "Order") "due" "Order.due" s_Order_due := by
  obtain ⟨fd, F⟩ := (c.def_ 7 (d := ⟨("Order", (some "due")), "due", "Order.due", defArgs s_Order_due, defBody s_Order_due, defScope s_Order_due, [], []⟩) rfl)
  exact ⟨_, fd, He.cls_ok (c.fact 107 (f := He.Fa.cls "Order") rfl), He.meth_ok (c.fact 114 (f := He.Fa.meth "Order" "due") rfl), F⟩
theorem law_fn {f c : Addr} {fd : FuncData} (F : FunD K "law" "law" (defArgs s_law) (defBody s_law) (defScope s_law) [] [] f fd) (hc : fd.code = .ref c) (body : BodyGT P w K mg base 18 "law" ["_law_cells", "_law_k"] s_law c (spLaw K (TT K))) : FnG P w K mg base 19 f fd ["_law_cells"] (spLaw K (TT K)) :=
  FunD.okGT F hc sc_law (fun vs H Q E h => by
    obtain ⟨a, ns, rfl, _⟩ := h
    rfl) fun A outer s H vs Q E hgd hr h => body f A outer s H vs Q E hgd hr h
theorem facts (X : K.In h) (G : h.Ns mainGlobals mg) (e : ex K = true) (hw : gws K = gvs) (c : He.SaysD fa fn K)  : BodyGT P w K mg base 18 "law" ["_law_cells", "_law_k"] s_law (He.cT K ("law", none)).1 (spLaw K (TT K)) := by
  have gg := g_gcd_of X G e
  have gN := He.glo_ok X G (c.fact 59 (f := He.Fa.glo "Numbers") rfl)
  have B := bl_of X G c
  have T := numc_of e c
  have p_generators := prp_generators (P := P) (w := w) (mg := mg) (base := base) e hw c
  have p_divisor := prp_divisor (P := P) (w := w) (mg := mg) (base := base) e hw c
  have p_measures := prp_measures (P := P) (w := w) (mg := mg) (base := base) e hw c
  have p_kinds := prp_kinds (P := P) (w := w) (mg := mg) (base := base) e hw c
  have p_people := prp_people (P := P) (w := w) (mg := mg) (base := base) e hw c
  have TO := ordc_of c
  have c_ways := ok_waysS (P := P) (w := w) (K := K) (mg := mg) (base := base) (L := 3) (k := 2) (by decide) B (ok_waysS (L := 2) (k := 1) (by decide) B (ok_waysS (L := 1) (k := 0) (by decide) B (ways0 (df_ways X G c)) (df_ways X G c)) (df_ways X G c)) (df_ways X G c)
  have c_is_integer := ok_is_integer (P := P) (w := w) (K := K) (mg := mg) (base := base) B (df_is_integer X G c)
  have c_is_integer_within := ok_is_integer_within (P := P) (w := w) (K := K) (mg := mg) (base := base) c_is_integer (df_is_integer_within X G c)
  have c_is_name := ok_is_name (P := P) (w := w) (K := K) (mg := mg) (base := base) B (He.int_ok X G (c.fact 12 (f := He.Fa.int "_LONGEST_NAME" 8) rfl)) (He.str_ok X G (c.fact 10 (f := He.Fa.str "_LETTERS" "abcdefghijklmnopqrstuvwxyz") rfl)) (He.str_ok X G (c.fact 11 (f := He.Fa.str "_LETTERS_AND_DIGITS" "abcdefghijklmnopqrstuvwxyz0123456789") rfl)) (df_is_name X G c)
  have c_is_number := ok_is_number (P := P) (w := w) (K := K) (mg := mg) (base := base) c_is_integer (df_is_number X G c)
  have c_is_tuple_of := ok_is_tuple_of (P := P) (w := w) (K := K) (mg := mg) (base := base) B (df_is_tuple_of X G c)
  have c_are_worths := ok_are_worths (P := P) (w := w) (K := K) (mg := mg) (base := base) B (He.int_ok X G (c.fact 6 (f := He.Fa.int "MOST_WORTH" 6) rfl)) c_is_integer_within c_is_tuple_of (df_are_worths X G c)
  have c_is_kind := ok_is_kind (P := P) (w := w) (K := K) (mg := mg) (base := base) B (He.int_ok X G (c.fact 5 (f := He.Fa.int "MOST_COUNT" 3) rfl)) c_is_name c_is_integer_within c_is_tuple_of c_are_worths (df_is_kind X G c)
  have c_names := ok_names (P := P) (w := w) (K := K) (mg := mg) (base := base) (df_names X G c)
  have c_most_people := ok_most_people (P := P) (w := w) (K := K) (mg := mg) (base := base) (He.int_ok X G (c.fact 4 (f := He.Fa.int "MOST_PEOPLE" 3) rfl)) (df_most_people X G c)
  have c_are_refused := ok_are_refused (P := P) (w := w) (K := K) (mg := mg) (base := base) B c_is_name (df_are_refused X G c)
  have c_is_person := ok_is_person (P := P) (w := w) (K := K) (mg := mg) (base := base) B (He.int_ok X G (c.fact 7 (f := He.Fa.int "MOST_SHARE" 3) rfl)) c_is_name c_is_integer_within c_is_tuple_of c_are_refused (df_is_person X G c)
  have c_check_measures := ok_check_measures (P := P) (w := w) (K := K) (mg := mg) (base := base) B (He.int_ok X G (c.fact 19 (f := He.Fa.int "_MOST_MEASURES" 2) rfl)) c_is_name (df_check_measures X G c)
  have c_check_kinds := ok_check_kinds (P := P) (w := w) (K := K) (mg := mg) (base := base) B (He.int_ok X G (c.fact 3 (f := He.Fa.int "MOST_KINDS" 4) rfl)) c_is_kind c_names (df_check_kinds X G c)
  have c_check_people := ok_check_people (P := P) (w := w) (K := K) (mg := mg) (base := base) B (He.int_ok X G (c.fact 20 (f := He.Fa.int "_FEWEST_PEOPLE" 2) rfl)) c_is_person c_names (df_check_people X G c)
  have c_text_of := ok_text_of (P := P) (w := w) (K := K) (mg := mg) (base := base) B (df_text_of X G c)
  have m_Order := ok_init (P := P) (w := w) (K := K) (mg := mg) (base := base) B c_check_measures c_check_kinds c_check_people c_names c_most_people c_text_of TO (di_Order X G c)
  have c_lowest := ok_lowest (P := P) (w := w) (K := K) (mg := mg) (base := base) gg (df_lowest X G c)
  have c_parts := ok_parts (P := P) (w := w) (K := K) (mg := mg) (base := base) B c_lowest (df_parts X G c)
  have c_box_worth := ok_box_worth (P := P) (w := w) (K := K) (mg := mg) (base := base) B (df_box_worth X G c)
  have c_law_cell := ok_law_cell (P := P) (w := w) (K := K) (mg := mg) (base := base) B (df_law_cell X G c)
  have c_law_jar := ok_law_jar (P := P) (w := w) (K := K) (mg := mg) (base := base) B c_law_cell (df_law_jar X G c)
  have c_law_dig := ok_law_dig (P := P) (w := w) (K := K) (mg := mg) (base := base) B (df_law_dig X G c)
  have c_law_take := ok_law_take (P := P) (w := w) (K := K) (mg := mg) (base := base) B c_law_dig (df_law_take X G c)
  have c_check_number := ok_check_number (P := P) (w := w) (K := K) (mg := mg) (base := base) (er_InvalidNumber_of X G e hw c) c_is_number (df_check_number X G c)
  have c_check_order := ok_check_order (P := P) (w := w) (K := K) (mg := mg) (base := base) B (He.glo_ok X G (c.fact 21 (f := He.Fa.glo "Order") rfl)) TO (isco_of e) (er_NotAnOrder_of X G e hw c) (df_check_order X G c)
  have d_Order_due := ok_due (P := P) (w := w) (K := K) (mg := mg) (base := base) B c_check_number c_box_worth c_parts TO (dm_O_due c)
  have c_all_shares := ok_all_shares (P := P) (w := w) (K := K) (mg := mg) (base := base) B p_people (df_all_shares X G c)
  have c_whole_due := ok_whole_due (P := P) (w := w) (K := K) (mg := mg) (base := base) B d_Order_due (df_whole_due X G c)
  have c_point_of := ok_point_of (P := P) (w := w) (K := K) (mg := mg) (base := base) B (df_point_of X G c)
  have c_points_of_kind := ok_points_of_kind (P := P) (w := w) (K := K) (mg := mg) (base := base) B p_people c_point_of (df_points_of_kind X G c)
  have c_points_of_things := ok_points_of_things (P := P) (w := w) (K := K) (mg := mg) (base := base) p_kinds c_points_of_kind (df_points_of_things X G c)
  have c_directions := ok_directions (P := P) (w := w) (K := K) (mg := mg) (base := base) B (He.glo_ok X G (c.fact 113 (f := He.Fa.glo "_AXES") rfl)) (ax_ok (ex_at e 40 rfl)) (df_directions X G c)
  have c_along := ok_along (P := P) (w := w) (K := K) (mg := mg) (base := base) (df_along X G c)
  have c_room := ok_room (P := P) (w := w) (K := K) (mg := mg) (base := base) B p_kinds p_measures c_all_shares c_whole_due c_point_of c_along (df_room X G c)
  have c_sides := ok_sides (P := P) (w := w) (K := K) (mg := mg) (base := base) B c_points_of_things c_directions c_along c_room (df_sides X G c)
  have c_two_steps := ok_two_steps (P := P) (w := w) (K := K) (mg := mg) (base := base) gg (df_two_steps X G c)
  have c_steps_apart := ok_steps_apart (P := P) (w := w) (K := K) (mg := mg) (base := base) B c_two_steps c_along (df_steps_apart X G c)
  have c_common_divisor := ok_common_divisor (P := P) (w := w) (K := K) (mg := mg) (base := base) gg (PySem.W.mg_of X G (of_decide_eq_true (ex_at e 41 rfl))) c_steps_apart c_all_shares c_room (df_common_divisor X G c)
  have c_moved := ok_moved (P := P) (w := w) (K := K) (mg := mg) (base := base) B (df_moved X G c)
  have c_joined := ok_joined (P := P) (w := w) (K := K) (mg := mg) (base := base) B (df_joined X G c)
  have c_given := ok_given (P := P) (w := w) (K := K) (mg := mg) (base := base) B c_moved c_joined (df_given X G c)
  have c_stands := ok_stands (P := P) (w := w) (K := K) (mg := mg) (base := base) (df_stands X G c)
  have c_grids := ok_grids (P := P) (w := w) (K := K) (mg := mg) (base := base) B p_kinds c_given (df_grids X G c)
  have c_row_across := ok_row_across (P := P) (w := w) (K := K) (mg := mg) (base := base) B (df_row_across X G c)
  have c_step_back := ok_step_back (P := P) (w := w) (K := K) (mg := mg) (base := base) B p_people c_ways c_stands (df_step_back X G c)
  have c_fill := ok_fill (P := P) (w := w) (K := K) (mg := mg) (base := base) B p_kinds p_people p_measures c_whole_due c_point_of c_grids c_stands c_step_back c_row_across (df_fill X G c)
  have c_has_bit := ok_has_bit (P := P) (w := w) (K := K) (mg := mg) (base := base) (df_has_bit X G c)
  have c_with_multiples := ok_with_multiples (P := P) (w := w) (K := K) (mg := mg) (base := base) (He.int_ok X G (c.fact 9 (f := He.Fa.int "MOST_NUMBER" 1000) rfl)) (df_with_multiples X G c)
  have c_check_generators := ok_check_generators (P := P) (w := w) (K := K) (mg := mg) (base := base) B (He.int_ok X G (c.fact 9 (f := He.Fa.int "MOST_NUMBER" 1000) rfl)) c_is_integer_within (df_check_generators X G c)
  have c_least_generators := ok_least_generators (P := P) (w := w) (K := K) (mg := mg) (base := base) B c_has_bit c_with_multiples (df_least_generators X G c)
  have c_greatest_divisor := ok_greatest_divisor (P := P) (w := w) (K := K) (mg := mg) (base := base) gg (df_greatest_divisor X G c)
  have c_leasts := ok_leasts (P := P) (w := w) (K := K) (mg := mg) (base := base) B gg (df_leasts X G c)
  have c_leasts_by_first := ok_leasts_by_first (P := P) (w := w) (K := K) (mg := mg) (base := base) c_leasts (df_leasts_by_first X G c)
  have c_holds := ok_holds (P := P) (w := w) (K := K) (mg := mg) (base := base) B (df_holds X G c)
  have b_init := body_init (P := P) (w := w) (K := K) (mg := mg) (base := base) c_check_generators c_least_generators c_greatest_divisor c_leasts_by_first T
  have m_Numbers := mk_of (P := P) (w := w) (base := base) X G c b_init
  have m0_Numbers := mk0_of (P := P) (w := w) (base := base) X G c b_init
  have d_Numbers__contains := ok_contains (P := P) (w := w) (K := K) (mg := mg) (base := base) c_is_number c_holds T (dm_contains X G c)
  have d_Numbers__eq := ok_eq (P := P) (w := w) (K := K) (mg := mg) (base := base) B gN T (dm_eq X G c)
  have c_possible0 := ok_possible0 (P := P) (w := w) (K := K) (mg := mg) (base := base) B (He.int_ok X G (c.fact 8 (f := He.Fa.int "MOST_BOXES" 12) rfl)) (dE_of e) (er_TooMany_of X G e hw c) m_Numbers m0_Numbers c_common_divisor c_fill (df_possible0 X G c)
  have c_reaching := ok_reaching (P := P) (w := w) (K := K) (mg := mg) (base := base) B c_along (df_reaching X G c)
  have c_takers := ok_takers (P := P) (w := w) (K := K) (mg := mg) (base := base) B c_points_of_things c_sides c_reaching (df_takers X G c)
  have c_possible := ok_possible (P := P) (w := w) (K := K) (mg := mg) (base := base) B c_check_order c_takers c_possible0 (df_possible X G c)
  have c_law_folk := ok_law_folk (P := P) (w := w) (K := K) (mg := mg) (base := base) B (df_law_folk X G c)
  have c_law_known := ok_law_known (P := P) (w := w) (K := K) (mg := mg) (base := base) B c_law_folk (df_law_known X G c)
  have c_law_right := ok_law_right (P := P) (w := w) (K := K) (mg := mg) (base := base) (T := TT K) B (nec_of e) m_Order m_Numbers c_possible d_Numbers__eq c_law_take c_law_known c_law_folk (df_law_right X G c)
  have c_law := ok_law (P := P) (w := w) (K := K) (mg := mg) (base := base) (c := (He.cT K ("law", none)).1) (T := TT K) B c_law_right c_law_jar
  exact c_law
end
end K11
open PySem PySem.W PySem.Calls PyProof.Rows
theorem PySem.Challenge.cw_evenboxes_k28_known_orders_holds : PySem.Challenge.rw_evenboxes_k28_known_orders.Holds := by
  w_on; o_law
  refine HandSHeadRun.head_imp (r := K11.R) (q := K11.qv) (H := K11.hk) (ob := K11.ob) (M := 20000) (loose := K11.loose) (d := HandSHeadRun.topDef K11.R.prog K11.lawAt) (kwd := []) K11.ob_eq K11.run
    (by kernel_rfl) (by kernel_rfl) (by kernel_rfl) (by rfl) (by first | assumption | decide +kernel) (by decide +kernel) ⟨rfl, rfl, rfl, rfl, rfl, by decide +kernel⟩ ?hw ?hc
  case hw => w_witness2
  case hc =>
    refine Z.walk_ofGT (l := PySem.Challenge.rw_evenboxes_k28_known_orders) (n := 63) (k := 19) (x := "_law_cells") rfl (by decide) (by kernel_rfl) ⟨rfl, by decide, by decide⟩ ?F
    intro w mg fa h Y G hmg0
    obtain ⟨K, KX, cw, c⟩ := Y
    have hmg : mg ("law" : PySem.Str) = some (.ref fa) := by
      have e : (HandSHeadRun.topDef K11.R.prog K11.lawAt).name = ("law" : PySem.Str) := by kernel_rfl
      rw [← e]
      exact hmg0
    have ce : K11.ex K = true := c.more
    have cc : He.SaysD K11.fa K11.fn K := c.t.d
    obtain ⟨f2, fd, hm, F, hcode⟩ := (K11.dft_law (mg := mg) KX G cc).ex
    have ef := hmg.symm.trans hm
    cases ef
    have hb := L2.FunD.bindsA (ps := ["_law_cells"]) F fun _ _ _ _ _ _ us hl => match us, hl with | [_], _ => rfl
    have hin : ∀ p ∈ K11.tf.map (He.cT K), ∃ d ∈ K11.tf, He.cT K d = p := fun p hp => List.mem_map.mp hp
    refine ⟨K, fd, K11.tf.map (He.cT K), K11.spLaw K (K11.TT K), KX, fun p hp => ?_, fun p hp => ?_, fun p hp => ?_, fun s v => hb s [v] rfl, fun H a ns hl hH hS => ⟨a, ns, rfl, hS, hl, Z.Tabs.start fun p hp => ?_, fun _ => rfl⟩, fun base _ _ TB => K11.law_fn F hcode (K11.facts (P := (PySem.Challenge.rw_evenboxes_k28_known_orders).prog) (w := w) (base := base) KX G ce cw cc )⟩
    · obtain ⟨d, hd, rfl⟩ := hin p hp
      exact c.empty d hd
    · obtain ⟨d, hd, rfl⟩ := hin p hp
      exact c.out d hd
    · obtain ⟨d, hd, rfl⟩ := hin p hp
      exact PySem.W.codeHd_of_K KX (c.hd d hd)
    · exact absurd hp (by simp [K11.TT])

