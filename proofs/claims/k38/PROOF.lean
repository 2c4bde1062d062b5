import PyProof.Rows.All
import Wide.All
import OpenK.AllK
import Wide.FinOn
import HandS.ForMost
import HandS.EndBits
import HandS.Wide
import HandS.WideMore
import HandS.WideBits
import HandS.Style
import HandS.Flow
import HandS.Gcd
import HandS.FStrTup
import HandS.Zip
import HandS.Conv
import HandS.Deep
import HandS.IsInst
import HandS.Codes
import HandS.TupAny
import HandS.TupMul
import HandS.SortInts
import HandS.Dict
import HandS.Iter
import HandS.More
import HandS.SetFor
import HandS.ListItems
import Flt.RightSqrt
import HandS.SetBool
import HandS.Strs
import PyProof.EqAt
import KE.KTupSum
import KE.KSortTupG
import HandS.SortKw
import KE.GoesMore
import KE.GoesZip
import KE.GoesEnum
import HandS.DictComp
import KE.KDictPairs
import KE.SortData
import HandS.NoneIn
import PySem.Challenge.RW_etaparts_k38_whole_forms_as_products
set_option Elab.async false
set_option linter.all false
set_option maxRecDepth 100000
set_option maxHeartbeats 4000000
namespace EP
open PySem PySem.Spec PyProof.Rows L2
/-! ### a def's promise where no text of data is being written: only there repr of data is known -/
section
variable {P : Program} {w : World} {K : PySem.W.Frag} {mg : Str → Option Value} {base : Heap}
structure GOk (P : Program) (w : World) (K : PySem.W.Frag) (mg : Str → Option Value) (base : Heap) (n : Nat)
    (fn : Addr) (rec : FuncData) (pars : List Str) (pr : Sp) : Prop where
  arity : ∀ vals hp want ex, pr vals hp want ex → vals.length = pars.length
  go : ∀ (ar : Around) (stk : List Env) (st : Shared) (hp : Hp) (raw : List Value) (vals : List V) (want : VK),
    ar.guards = some [] → Room n ar → Env0 P w K mg base ar stk st hp →
    BindsTo st rec ⟨raw, []⟩ (pars.zip raw) → Vals vals raw → pr vals hp want E0 →
    codeAny (model P w) ar (.call (.ref fn) ⟨raw, []⟩) (CR CX0 stk P w hp st want E0) st

theorem gok {nm qual : Str} {txt : Stmt} {fn : Addr} {rec : FuncData} {N pars : List Str} {n : Nat} {pr : Sp}
    (F : Fun K nm qual txt fn rec) (S : FnScope N pars (defScope txt))
    (arity : ∀ vals hp want ex, pr vals hp want ex → vals.length = pars.length)
    (body : ∀ (cdv : Value) (ar : Around) (stk : List Env) (st : Shared) (hp : Hp) (vals : List V) (want : VK),
      ar.guards = some [] →
      Room n (ar.deeper (envOfC qual (defScope txt) st.heap.objs.size fn cdv)) → pr vals hp want E0 →
      ∃ t, PSs (cxOf CX0 P w K mg base N qual (defScope txt) fn cdv ar stk st hp E0).nox (defBody txt) t ∧
        t { nx := fun _ h2 => want .non h2, rt := want } (start N vals) hp) :
    GOk P w K mg base (n + 1) fn rec pars pr := by
  obtain ⟨cl, od, kv, dc, pm, an, cdv, ct, sl, rfl, lk, hc⟩ := F.ex
  refine ⟨arity, ?_⟩
  intro ar stk st hp raw vals want hg room env bnd rel hpr
  have nArgs := arity vals hp want E0 hpr
  have inK : K.In st.heap := env.mod.kin.keeps (fun b o q => (env.bs b o q).1)
  have noLim : st.heap.NoLimit := env.mod.nolimit.keeps (fun b o q => (env.bs b o q).1)
  refine codeAny_call_function (Room.depth room) (inK fn _ lk) rfl S.co S.gen rfl (PySem.W.codeRec_of inK hc) ?_
  refine bnd _ _ _ _ ?_
  refine wpAny_newFunctionEnv_cells S.kind ?_ ?_
  · rintro ⟨x, u⟩ hx
    cases S.par x (List.of_mem_zip hx).1 with
    | inl q => exact Or.inl q
    | inr q => exact Or.inr ⟨q, PySem.W.cellsFrom_some _ _ _ (Or.inl q)⟩
  · intro ev hev st1 inCall
    subst hev
    refine ⟨noLim.keeps inCall.toInCall.keep, codeAny_func ?_⟩
    obtain ⟨t, walk, read⟩ := body cdv ar stk st hp vals want hg (room.deeper _) hpr
    have I0 := inv_start (CX := CX0) (E := E0) S room.hd env nArgs rel inCall
    have fin : ∀ {σ2 : L2.St} {h2 : Hp} {v : V} {u : Value} {s2 : Shared},
        Inv (cxOf CX0 P w K mg base N qual (defScope txt) fn cdv ar stk st hp E0) [] σ2 h2 s2 → RelV v u → want v h2 →
        CE stk P w hp st want u s2 := by
      intro σ2 h2 v u s2 J rv q
      exact ⟨v, h2, J.os, J.bare, J.base, J.hok, rv, q⟩
    refine wpAny_mono (walk.nox.run [] st1 _ hp _ I0 read) ?_ (fun _ _ z => z)
    intro fl s2 end_
    cases fl with
    | ret u => obtain ⟨v, σ2, h2, J, rv, q⟩ := end_; exact fin J rv q
    | next => obtain ⟨σ2, h2, J, q⟩ := end_; exact fin (v := V.non) (u := Value.none) J rfl q
    | brk => obtain ⟨_, _, _, z⟩ := end_; exact z.elim
    | cont => obtain ⟨_, _, _, z⟩ := end_; exact z.elim
end
section
variable {X : Cx} {n : Nat} {fn : Addr} {rec : FuncData} {pars : List Str} {pr : Sp} {x : Str} {p pos : Pos} {e : Expr} {es : List Expr} {t : TA}
/-- a call of such a def from a body of which the same is known -/
theorem pe_gcall (hg : X.A.guards = some []) (F : GOk X.prog X.w X.K X.mg X.base n fn rec pars pr) (room : Room n X.A)
    (hgl : Gl X x) (hm : X.mg x = some (.ref fn)) (hk : PySem.W.keepIn X.K (.ref fn) = true) (bnd : Binds X.K rec pars [])
    (args : PA X (e :: es) t) (hdb : (x == ("__debug__" : Str)) = false := by decide)
    (he : starEach (e :: es) X.env = (false, eval e X.env) :: starEach es X.env := by rfl)
    (hpl : (backTo pos (starEach es X.env)).any (·.1) = false := by rfl) :
    PE X (.Call (.Name x p) (e :: es) [] pos) (tCall pr [] E0 t) := by
  constructor
  intro pins st σ hp want I h
  refine wpAny_Call_Name_kw (ld_glob I hgl hm ?_ hdb)
  refine PySem.W.callWith_K (h₀ := X.base) I.ok.mod.kin hk ?_ he hpl
  refine thn (args.run pos pins st σ hp _ I h) ?_
  rintro us s1 ⟨vs, h1, I1, rel, q⟩
  refine ⟨I1.kIn, ?_⟩
  rw [List.append_nil] at q
  have nArgs : us.length = pars.length := by rw [← rel.length]; exact F.arity _ _ _ _ q
  have b1 := bnd s1 us I1.kIn (by rw [List.append_nil]; exact nArgs)
  rw [List.append_nil] at b1
  refine wpAny_call (codeAny_mono (F.go X.A X.stack s1 h1 us vs want hg room I1.env0 b1 rel q) ?_)
  intro r s2 hr
  cases r with
  | error ex => exact hr.elim
  | ok fl =>
    cases fl with
    | ret u => exact I1.after hr
    | next => exact hr.elim
    | brk => exact hr.elim
    | cont => exact hr.elim
/-- f(a=.., b=..): keywords alone -/
theorem pe_kcall {CX : CXT} {ks : List Str} {g : List Value → List Value → List Value} {gV : List V → List V → List V} {E : XK} {kws : List Keyword} {tk : TA}
    (F : FnOk X.prog X.w X.K X.mg X.base CX n fn rec pars pr) (room : Room n X.A) (hgl : Gl X x) (hm : X.mg x = some (.ref fn))
    (hk : PySem.W.keepIn X.K (.ref fn) = true) (hb : KBinds X.K rec pars ks g gV) (hx : Passes CX X E) (hkw : PK X kws tk)
    (hall : (backToKw pos (keywordEach kws X.env)).all (·.1.isSome) = true := by rfl)
    (hks : (backToKw pos (keywordEach kws X.env)).filterMap (·.1) = ks := by rfl)
    (hdb : (x == ("__debug__" : Str)) = false := by decide)
    (hpl : ((backTo pos (starEach [] X.env)).any (·.1) || (backToKw pos (keywordEach kws X.env)).any (·.1.isNone)) = false := by rfl) :
    PE X (.Call (.Name x p) [] kws pos) (tCallK pr gV E tNil tk) := by
  constructor
  intro pins st σ hp want I h
  refine wpAny_Call_Name_kw (ld_glob I hgl hm ?_ hdb)
  refine PySem.W.callWith_KW0 (h₀ := X.base) I.ok.mod.kin hk hall ?_ hpl
  refine thn (hkw.run pos pins st σ hp _ I h) ?_
  rintro ws s2 ⟨zs, h2, I2, rz, q2⟩
  refine ⟨I2.kIn, ?_⟩
  rw [hks]
  exact run_fnk F room hb hx I2 .nil rz q2
/-- repr of data -/
theorem call_reprD (hg : X.A.guards = some []) (hu : X.A.units + 66 < cLine) :
    CallR X (.builtin "repr") (fun xs hp want => ∃ a d, xs = [.ref a] ∧ Dp X.K hp (.ref a) d ∧ d.showable = true ∧ d.hasDict = false ∧
      d.depth ≤ 64 ∧ d.shown.length ≤ sizeLine ∧ want (.str d.shown) hp) := by
  intro pins st σ hp xs us want I r h
  obtain ⟨a, d, rfl, hd, h1, h2, h3, h4, q⟩ := h
  obtain ⟨u, rfl, rv⟩ := vals1 r
  obtain rfl : u = .ref a := rv
  obtain ⟨as, rd⟩ := Dp.reads I d _ _ hd rfl
  refine repr_of_reads' rd h1 (fun z => ?_) hg (by omega) (fun _ _ z => z) (fun h2 u tk hk => ?_) h4
  · rw [h2] at z; cases z
  · exact ⟨.str _, hp, I.kept hk, ⟨_, rfl⟩, q⟩
end
/-! ### the law's end -/
theorem law_run {P : Program} {w : World} {K : PySem.W.Frag} {mg mb : Str → Option Value} {n : Nat} {fn at_ : Addr} {rec : FuncData} {x : Str} {pr : Sp} {st : Shared} {raw : List Value} {ns : List Int}
    (inK : K.In st.heap) (glob : st.heap.Ns mainGlobals mg) (blt : st.heap.Ns builtinsNs mb) (bltIs : ∀ y : Str, y ≠ "__name__" → mb y = bootBuiltins y)
    (noLim : st.heap.NoLimit) (gens : st.gens = #[]) (obj : st.heap.get? at_ = some { cls := .type "list", data := .seq raw.toArray })
    (nums : IntsAre raw ns) (few : ns.length ≤ sizeLine) (room : Room n callerA)
    (F : ∀ base : Heap, K.In base → base.Ns mainGlobals mg → GOk P w K mg base n fn rec [x] pr)
    (bnd : ∀ (s : Shared) (u : Value), BindsTo s rec ⟨[u], []⟩ [(x, u)])
    (told : ∀ hp : Hp, Only hp → SqL K hp at_ (ns.map V.int) → pr [.ref at_] hp (fun v _ => v = .bl true) E0) :
    codeAny (model P w) callerA (.call (.ref fn) ⟨[.ref at_], []⟩)
      (fun r s2 => r = .ok (.ret (.bool true)) ∧ PySem.OldK st.heap s2.heap ∧ s2.os = st.os ∧ AllBare s2.gens) st := by
  have rel := vals_ints nums
  have nRaw := nums.length
  suffices main : ∀ hp : Hp, Only hp → SqL K hp at_ (ns.map V.int) → HOk P w hp st.heap → (∀ b, hp b ≠ none → b = at_) →
      (hp at_ ≠ none → K.lookup at_ = none) →
      codeAny (model P w) callerA (.call (.ref fn) ⟨[.ref at_], []⟩)
        (fun r s2 => r = .ok (.ret (.bool true)) ∧ PySem.OldK st.heap s2.heap ∧ s2.os = st.os ∧ AllBare s2.gens) st by
    cases hk : K.lookup at_ with
    | some o =>
      have same := inK at_ o hk
      rw [obj] at same
      cases same
      refine main (fun _ => none) (fun _ => Or.inl rfl) (Or.inr ⟨_, raw.toArray, _, hk, rfl, rfl, rfl, ?_, ?_⟩) ?_ ?_ ?_
      · rw [List.size_toArray, nRaw]; exact few
      · simpa using rel
      · intro b u z
        have z2 : (none : Option HO) = some u := z
        cases z2
      · intro b z; exact absurd rfl z
      · intro z; exact absurd rfl z
    | none =>
      refine main (fun b => if b = at_ then some (.frz { cls := .type "list", data := .seq raw.toArray } (.lst (ns.map V.int))) else none) ?_ (Or.inl (Or.inr ⟨_, if_pos rfl⟩)) ?_ ?_ (fun _ => hk)
      · intro b
        by_cases hb : b = at_
        · exact Or.inr ⟨_, _, if_pos hb⟩
        · exact Or.inl (if_neg hb)
      · intro b u z
        by_cases hb : b = at_
        · have z2 := (if_pos hb).symm.trans z
          cases z2
          subst hb
          exact ⟨obj, by rw [List.length_map]; exact few, raw, _, rel, obj⟩
        · have z2 := (if_neg hb).symm.trans z
          cases z2
      · intro b z
        by_cases hb : b = at_
        · exact hb
        · exact absurd (if_neg hb) z
  intro hp only sq ok alone notK
  have un1 : ∀ {b : Addr} {o : Obj}, st.heap.get? b = some o → (∀ vs n, o.data ≠ .seq vs n) → hp b = none := by
    intro b o q d
    cases hb : hp b with
    | none => rfl
    | some u =>
      have e1 := alone b (by rw [hb]; simp)
      subst e1
      rw [obj] at q
      cases q
      exact absurd rfl (d _ _)
  have hid : ∀ {b : Addr} {o : Obj}, st.heap.get? b = some o → hp b = none → (hidT st.heap hp).get? b = some o := fun q z => hidT_get q z
  have ns1 : ∀ {b : Addr} {m : Str → Option Value}, st.heap.Ns b m → (hidT st.heap hp).Ns b m := by
    rintro b m ⟨o, es, ep, q, d, r⟩
    exact ⟨o, es, ep, hid q (un1 q (by intro vs k z; rw [d] at z; cases z)), d, r⟩
  have inK1 : K.In (hidT st.heap hp) := by
    intro b o q
    refine hid (inK b o q) ?_
    cases hb : hp b with
    | none => rfl
    | some u =>
      have e1 := alone b (by rw [hb]; simp)
      subst e1
      have z := notK (by rw [hb]; simp)
      rw [q] at z
      cases z
  have mod1 : Mod K mg (hidT st.heap hp) := by
    refine ⟨inK1, ns1 glob, ⟨mb, ns1 blt, bltIs⟩, ?_⟩
    obtain ⟨mc, a1, a2⟩ := noLim
    exact ⟨mc, ns1 a1, a2⟩
  have env1 : Env0 P w K mg (hidT st.heap hp) callerA [] st hp := by
    refine ⟨rfl, mod1, fun b o q => of_hidT q, Nat.le_of_eq (hidT_size _ _), trivial, ?_, ok, .of_eq gens⟩
    intro b hb
    cases (show b ∈ ([] : List Addr) from hb)
  refine codeAny_mono ((F _ inK1 (ns1 glob)).go callerA [] st hp [.ref at_] [.ref at_] _ rfl room env1 (bnd st (.ref at_)) (.cons rfl .nil) (told hp only sq)) ?_
  intro r s2 h
  cases r with
  | error ex => exact h.elim
  | ok fl =>
    cases fl with
    | next => exact h.elim
    | brk => exact h.elim
    | cont => exact h.elim
    | ret u =>
      obtain ⟨v, h2, os, bare, un, ok2, rv, q⟩ := h
      have q2 : v = .bl true := q
      subst q2
      obtain rfl : u = Value.bool true := rv
      refine ⟨rfl, PySem.OldK.of_keep ?_, os, bare⟩
      intro b o z
      cases hb : hp b with
      | none => exact un.keep b o z hb (by intro y; cases (show b ∈ ([] : List Addr) from y)) (by simp)
      | some u =>
        rcases only b with y | ⟨ob, xs, y⟩
        · rw [hb] at y; cases y
        · have y2 := un.frzs b ob _ y
          obtain ⟨e1, _⟩ := ok b _ y
          obtain ⟨e2, _⟩ := ok2 b _ y2
          rw [z] at e1
          cases e1
          exact e2
theorem walk_run {l : PySem.W.OpenLaw} {most n : Nat} {q : Program} {loose : List Str} {XP : (Str → Option Value) → Heap → Prop} {YP : World → Heap → Prop} {d : PySem.DefRec} {K : PySem.Params → PySem.W.Frag} {pr : World → Sp} {x : Str}
    (hn : l.most = some most) (few : most ≤ sizeLine) (hdf : d.params.defaults = []) (room : Room n callerA)
    (hY : ∀ (w : World) (h : Heap), YP w h → (K w.params).In h)
    (F : ∀ (w : World) (mg : Str → Option Value) (fa : Addr) (h : Heap), (K w.params).In h → h.Ns mainGlobals mg → mg d.name = some (.ref fa) →
      ∃ fd : FuncData, (∀ (s : Shared) (u : Value), BindsTo s fd ⟨[u], []⟩ [(x, u)]) ∧
        ∀ base : Heap, (K w.params).In base → base.Ns mainGlobals mg → GOk l.prog w (K w.params) mg base n fa fd [x] (pr w))
    (told : ∀ (w : World) (hp : Hp) (a : Addr) (ns : List Int), ns.length ≤ most → (∀ z ∈ ns, Builtin.Int.intBits z ≤ 1048576) → Only hp →
      SqL (K w.params) hp a (ns.map V.int) → pr w [.ref a] hp (fun v _ => v = .bl true) E0) :
    PySem.W.WalkO q loose XP YP l.row.toRowW d [] (fun f vs => PySem.call f vs) := by
  refine Att.attach_callB hn hdf ?_
  intro w s0 st mg mb fa o pm cd doc a raw ns G Y ho hd hcd hmg obj nums nfew bits gens
  have inK := hY w _ Y
  obtain ⟨fd, b, hF⟩ := F w mg fa _ inK G.T.g hmg
  exact law_run inK G.T.g G.T.b G.T.builtins G.T.nolimit gens obj nums (Nat.le_trans nfew few) room hF b (fun hp o1 sq => told w hp a ns nfew bits o1 sq)
end EP

namespace EP
open PySem PySem.Spec PyProof.Rows L2
/-! ### heaps that grow -/
def Kp (H H' : Hp) : Prop := ∀ a o, H a = some o → H' a = some o
theorem Kp.refl (H : Hp) : Kp H H := fun _ _ h => h
theorem Kp.trans {H H1 H2 : Hp} (a : Kp H H1) (b : Kp H1 H2) : Kp H H2 := fun x o h => b x o (a x o h)
theorem Kp.new {H : Hp} {p : Addr} {o : HO} (h : H p = none) : Kp H (upd H p o) := fun b x e => by
  rw [upd_ne (ne_of_none e h)]; exact e
theorem Kp.rd {H H' : Hp} {a : Addr} {u : HO} (k : Kp H H') (h : Rd H a u) : Rd H' a u := by
  cases h with
  | inl h => exact .inl (k _ _ h)
  | inr h => obtain ⟨o, h⟩ := h; exact .inr ⟨o, k _ _ h⟩
theorem Kp.sq {K : PySem.W.Frag} {H H' : Hp} {a : Addr} {xs : List V} (k : Kp H H') (h : SqL K H a xs) : SqL K H' a xs := by
  cases h with
  | inl h => exact .inl (k.rd h)
  | inr h => exact .inr h
theorem Kp.st {K : PySem.W.Frag} {H H' : Hp} {a : Addr} {xs : List V} (k : Kp H H') (h : SqT K H a xs) : SqT K H' a xs := by
  cases h with
  | inl h => exact .inl (k.rd h)
  | inr h => exact .inr h
theorem Kp.free {H H' : Hp} {p : Addr} (k : Kp H H') (h : H' p = none) : H p = none := by
  cases q : H p with
  | none => rfl
  | some o => rw [k p o q] at h; cases h
mutual
theorem Kp.dp {K : PySem.W.Frag} {H H' : Hp} (k : Kp H H') : ∀ (d : PyData) (v : V), Dp K H v d → Dp K H' v d
  | .none, _, h => by cases h; exact .non
  | .bool b, _, h => by cases h; exact .bl b
  | .int i, _, h => by cases h; exact .int i
  | .str x, _, h => by cases h; exact .str x
  | .list ds, _, h => by cases h with | lst hs ha => exact .lst (k.sq hs) (Kp.dpAll k ds _ ha)
  | .tuple ds, _, h => by cases h with | tup hs ha => exact .tup (k.st hs) (Kp.dpAll k ds _ ha)
  | .dict _, _, h => by cases h
theorem Kp.dpAll {K : PySem.W.Frag} {H H' : Hp} (k : Kp H H') : ∀ (ds : List PyData) (vs : List V), DpAll K H vs ds → DpAll K H' vs ds
  | [], _, h => by cases h; exact .nil
  | d :: ds, _, h => by cases h with | cons h1 h2 => exact .cons (Kp.dp k d _ h1) (Kp.dpAll k ds _ h2)
end
/-- all but the object at a stands -/
def Bt (a : Addr) (H H' : Hp) : Prop := ∀ b o, b ≠ a → H b = some o → H' b = some o
theorem Bt.refl (a : Addr) (H : Hp) : Bt a H H := fun _ _ _ h => h
theorem Bt.trans {a : Addr} {H H1 H2 : Hp} (x : Bt a H H1) (y : Bt a H1 H2) : Bt a H H2 := fun b o n h => y b o n (x b o n h)
theorem Kp.bt {a : Addr} {H H' : Hp} (k : Kp H H') : Bt a H H' := fun b o _ h => k b o h
theorem Bt.upd {a : Addr} {H : Hp} {o : HO} : Bt a H (upd H a o) := fun b x n e => by rw [upd_ne n]; exact e
theorem Bt.rd {a b : Addr} {H H' : Hp} {u : HO} (k : Bt a H H') (n : b ≠ a) (h : Rd H b u) : Rd H' b u := by
  cases h with
  | inl h => exact .inl (k _ _ n h)
  | inr h => obtain ⟨o, h⟩ := h; exact .inr ⟨o, k _ _ n h⟩
theorem Bt.sq {K : PySem.W.Frag} {a b : Addr} {H H' : Hp} {xs : List V} (k : Bt a H H') (n : b ≠ a) (h : SqL K H b xs) : SqL K H' b xs := by
  cases h with
  | inl h => exact .inl (k.rd n h)
  | inr h => exact .inr h
theorem sqL {K : PySem.W.Frag} {H : Hp} {a : Addr} {xs : List V} (h : H a = some (.lst xs)) : SqL K H a xs := .inl (.inl h)
theorem sqT {K : PySem.W.Frag} {H : Hp} {a : Addr} {xs : List V} (h : H a = some (.tup xs)) : SqT K H a xs := .inl (.inl h)
theorem szOk {n : Nat} (h : n ≤ 100000) : n ≤ sizeLine := Nat.le_trans h (by decide)
theorem szLt {n : Nat} (h : n < 100000) : n < sizeLine := Nat.lt_of_lt_of_le h (by decide)
theorem un66 {k : Nat} {A : Around} (r : Room k A) : A.units + 66 < cLine := by have := r.un; omega
/-! ### data -/
theorem dpInts {K : PySem.W.Frag} {H : Hp} : ∀ ns : List Int, DpAll K H (ns.map V.int) (ns.map PyData.int)
  | [] => .nil
  | n :: r => .cons (.int n) (dpInts r)
theorem dpIntList {K : PySem.W.Frag} {H : Hp} {a : Addr} {ns : List Int} (h : SqL K H a (ns.map V.int)) : Dp K H (.ref a) (.list (ns.map PyData.int)) := .lst h (dpInts ns)
theorem dpIntTup {K : PySem.W.Frag} {H : Hp} {a : Addr} {ns : List Int} (h : SqT K H a (ns.map V.int)) : Dp K H (.ref a) (.tuple (ns.map PyData.int)) := .tup h (dpInts ns)
mutual
/-- numbers, truths, None, lists and tuples of such, of at most f levels, that can be written out -/
def okD : Nat → PyData → Bool
  | _, .none => true
  | _, .bool _ => true
  | _, .int i => decide (i.natAbs.log2 < 1900)
  | 0, _ => false
  | f + 1, .list xs => okAll f xs
  | f + 1, .tuple xs => okAll f xs
  | _, _ => false
def okAll : Nat → List PyData → Bool
  | _, [] => true
  | f, x :: xs => okD f x && okAll f xs
end
mutual
def nodes : PyData → Nat
  | .list xs => nodesAll xs + 1
  | .tuple xs => nodesAll xs + 1
  | _ => 1
def nodesAll : List PyData → Nat
  | [] => 0
  | x :: xs => nodes x + nodesAll xs
end
theorem piledC (t : Str) (ts : List Str) : piled (t :: ts) = (t.length + 2) + piled ts := by simp [piled]
theorem textFromLe : ∀ (ts : List Str) (k : Nat) (acc : Str), (textFrom k acc ts).length ≤ acc.length + piled ts
  | [], k, acc => by show acc.length ≤ _; omega
  | t :: r, k, acc => by
    have h := textFromLe r (k + 1) (acc ++ (if k > 0 then ", " else "" : String) ++ t)
    have e : (acc ++ (if k > 0 then ", " else "" : String) ++ t).length = acc.length + (if k > 0 then 2 else 0) + t.length := by
      rw [strLen_append, strLen_append]
      split <;> rfl
    rw [e] at h
    rw [piledC]
    show (textFrom (k + 1) _ r).length ≤ _
    have : (if k > 0 then 2 else 0 : Nat) ≤ 2 := by split <;> omega
    omega
theorem listTextLe (ts : List Str) : (listText ts).length ≤ piled ts + 2 := by
  unfold listText
  rw [strLen_append]
  have h := textFromLe ts 0 "["
  have e1 : ((("[" : String) : Str)).length = 1 := rfl
  have e2 : ((("]" : String) : Str)).length = 1 := rfl
  rw [e1] at h
  rw [e2]
  omega
theorem intTextLe {i : Int} (h : i.natAbs.log2 < 1900) : (Str.ofString (toString i)).length ≤ 1901 := by
  have h1 := int_text_length_le (a := i) (k := 1900) (by decide) h
  rw [PySem.ofString_length]
  omega
mutual
theorem shownLe : ∀ (f : Nat) (d : PyData), okD f d = true → d.shown.length + 2 ≤ 2004 * nodes d
  | _, .none, _ => by decide
  | _, .bool b, _ => by cases b <;> decide
  | _, .int i, h => by
    have h1 : i.natAbs.log2 < 1900 := by simpa [okD] using h
    have h2 := intTextLe h1
    show (Str.ofString (toString i)).length + 2 ≤ 2004 * 1
    omega
  | 0, .str _, h => by simp [okD] at h
  | 0, .list _, h => by simp [okD] at h
  | 0, .tuple _, h => by simp [okD] at h
  | 0, .dict _, h => by simp [okD] at h
  | f + 1, .str _, h => by simp [okD] at h
  | f + 1, .dict _, h => by simp [okD] at h
  | f + 1, .list xs, h => by
    have h1 : okAll f xs = true := by simpa [okD] using h
    have h2 := shownAllLe f xs h1
    have h3 := listTextLe (PyData.shownAll xs)
    show (listText (PyData.shownAll xs)).length + 2 ≤ 2004 * (nodesAll xs + 1)
    omega
  | f + 1, .tuple xs, h => by
    have h1 : okAll f xs = true := by simpa [okD] using h
    have h2 := shownAllLe f xs h1
    have h3 := fmt_text (PyData.shownAll xs)
    show (tupleText (PyData.shownAll xs)).length + 2 ≤ 2004 * (nodesAll xs + 1)
    omega
theorem shownAllLe : ∀ (f : Nat) (xs : List PyData), okAll f xs = true → piled (PyData.shownAll xs) ≤ 2004 * nodesAll xs
  | _, [], _ => by decide
  | f, x :: xs, h => by
    have h1 : okD f x = true ∧ okAll f xs = true := by simpa [okAll] using h
    have h2 := shownLe f x h1.1
    have h3 := shownAllLe f xs h1.2
    show piled (PyData.shown x :: PyData.shownAll xs) ≤ 2004 * (nodes x + nodesAll xs)
    rw [piledC]
    omega
end
mutual
theorem okD_show : ∀ (f : Nat) (d : PyData), okD f d = true → d.showable = true ∧ d.hasDict = false ∧ d.depth ≤ f
  | f, .none, _ => ⟨rfl, rfl, Nat.zero_le _⟩
  | f, .bool b, _ => ⟨rfl, rfl, Nat.zero_le _⟩
  | f, .int i, h => by
    have h1 : i.natAbs.log2 < 1900 := by simpa [okD] using h
    refine ⟨?_, rfl, Nat.zero_le _⟩
    show decide (i.natAbs.log2 < 1920) = true
    exact decide_eq_true (by omega)
  | 0, .str _, h => by simp [okD] at h
  | 0, .list _, h => by simp [okD] at h
  | 0, .tuple _, h => by simp [okD] at h
  | 0, .dict _, h => by simp [okD] at h
  | f + 1, .str _, h => by simp [okD] at h
  | f + 1, .dict _, h => by simp [okD] at h
  | f + 1, .list xs, h => by
    have h1 : okAll f xs = true := by simpa [okD] using h
    obtain ⟨a, b, c⟩ := okAll_show f xs h1
    refine ⟨a, b, ?_⟩
    show PyData.depthAll xs + 1 ≤ f + 1
    omega
  | f + 1, .tuple xs, h => by
    have h1 : okAll f xs = true := by simpa [okD] using h
    obtain ⟨a, b, c⟩ := okAll_show f xs h1
    refine ⟨a, b, ?_⟩
    show PyData.depthAll xs + 1 ≤ f + 1
    omega
theorem okAll_show : ∀ (f : Nat) (xs : List PyData), okAll f xs = true → PyData.showableAll xs = true ∧ PyData.hasDictAll xs = false ∧ PyData.depthAll xs ≤ f
  | f, [], _ => ⟨rfl, rfl, Nat.zero_le _⟩
  | f, x :: xs, h => by
    have h1 : okD f x = true ∧ okAll f xs = true := by simpa [okAll] using h
    obtain ⟨a, b, c⟩ := okD_show f x h1.1
    obtain ⟨a2, b2, c2⟩ := okAll_show f xs h1.2
    refine ⟨?_, ?_, ?_⟩
    · show (PyData.showable x && PyData.showableAll xs) = true
      rw [a, a2]; rfl
    · show (PyData.hasDict x || PyData.hasDictAll xs) = false
      rw [b, b2]; rfl
    · show max (PyData.depth x) (PyData.depthAll xs) ≤ f
      omega
end
mutual
theorem okD_lay : ∀ (f : Nat) (d : PyData), okD f d = true → d.canLay0 = true
  | f, .none, _ => by simp [PyData.canLay0]
  | f, .bool b, _ => by simp [PyData.canLay0]
  | f, .int i, h => by simp [PyData.canLay0]
  | 0, .str _, h => by simp [okD] at h
  | 0, .list _, h => by simp [okD] at h
  | 0, .tuple _, h => by simp [okD] at h
  | 0, .dict _, h => by simp [okD] at h
  | f + 1, .str _, h => by simp [okD] at h
  | f + 1, .dict _, h => by simp [okD] at h
  | f + 1, .list xs, h => by
    have h1 : okAll f xs = true := by simpa [okD] using h
    have h2 := okAll_lay f xs h1
    simp only [PyData.canLay0]; exact h2
  | f + 1, .tuple xs, h => by
    have h1 : okAll f xs = true := by simpa [okD] using h
    have h2 := okAll_lay f xs h1
    simp only [PyData.canLay0]; exact h2
theorem okAll_lay : ∀ (f : Nat) (xs : List PyData), okAll f xs = true → PyData.canLayAll0 xs = true
  | f, [], _ => by simp [PyData.canLayAll0]
  | f, x :: xs, h => by
    have h1 : okD f x = true ∧ okAll f xs = true := by simpa [okAll] using h
    simp only [PyData.canLayAll0, okD_lay f x h1.1, okAll_lay f xs h1.2, Bool.and_self]
end
theorem okD_shaped {f : Nat} {d : PyData} (h : okD f d = true) (hf : f ≤ 64) : SeqAt.shaped d = true := by
  have h1 := okD_lay f d h
  obtain ⟨_, _, h2⟩ := okD_show f d h
  show (d.canLay0 && decide (d.depth ≤ 64)) = true
  rw [Bool.and_eq_true]
  exact ⟨h1, decide_eq_true (by omega)⟩
/-- repr of small data -/
def rRep (K : PySem.W.Frag) : List V → Hp → VK → Prop := fun xs H Q => ∃ a d, xs = [.ref a] ∧ Dp K H (.ref a) d ∧ okD 8 d = true ∧ nodes d ≤ 4000 ∧ Q (.str d.shown) H
theorem call_rep {X : Cx} (hg : X.A.guards = some []) (hu : X.A.units + 66 < cLine) : CallR X (.builtin "repr") (rRep X.K) := by
  intro pins s σ H xs us Q I r h
  obtain ⟨a, d, e, hd, h1, h2, q⟩ := h
  obtain ⟨h3, h4, h5⟩ := okD_show 8 d h1
  have h6 := shownLe 8 d h1
  refine call_reprD hg hu pins s σ H xs us Q I r ⟨a, d, e, hd, h3, h4, by omega, ?_, q⟩
  rw [sizeLine_eq]
  omega
theorem okInts {f : Nat} : ∀ {ns : List Int}, (∀ n ∈ ns, n.natAbs.log2 < 1900) → okAll f (ns.map PyData.int) = true
  | [], _ => rfl
  | n :: r, h => by
    show (okD f (.int n) && okAll f (r.map PyData.int)) = true
    rw [okInts fun m hm => h m (List.mem_cons_of_mem _ hm), Bool.and_true]
    cases f <;> exact decide_eq_true (h n List.mem_cons_self)
theorem nodesInts : ∀ ns : List Int, nodesAll (ns.map PyData.int) = ns.length
  | [] => rfl
  | n :: r => by
    show nodes (.int n) + nodesAll (r.map PyData.int) = r.length + 1
    rw [nodesInts r]
    show 1 + r.length = r.length + 1
    omega
theorem nodesL (ns : List Int) (h : ns.length ≤ 3000) : nodes (.list (ns.map PyData.int)) ≤ 4000 := by
  show nodesAll (ns.map PyData.int) + 1 ≤ 4000
  rw [nodesInts]; omega
theorem nodesT (ns : List Int) (h : ns.length ≤ 3000) : nodes (.tuple (ns.map PyData.int)) ≤ 4000 := by
  show nodesAll (ns.map PyData.int) + 1 ≤ 4000
  rw [nodesInts]; omega
theorem shortInt {n : Int} (h : -(2 ^ 200) < n ∧ n < 2 ^ 200) : n.natAbs.log2 < 1900 := by
  have h0 : n.natAbs < 2 ^ 200 := by omega
  have h1 : n.natAbs < 2 ^ 1900 := Nat.lt_of_lt_of_le h0 (Nat.pow_le_pow_right (by decide) (by decide))
  by_cases z : n.natAbs = 0
  · rw [z]; decide
  · exact (Nat.log2_lt z).mpr h1
/-! ### great numbers -/
def CDivX (_ j : Int) : Prop := j ≠ 0 ∧ j.natAbs < 2 ^ 8000
theorem log2Lt {n k : Nat} (hk : 0 < k) (h : n < 2 ^ k) : n.log2 < k := by
  by_cases z : n = 0
  · rw [z]; simpa using hk
  · exact (Nat.log2_lt z).mpr h
theorem op_fdivX {X : Cx} : OpR X (binaryOp .FloorDiv) (rI CDivX fun i j => .int (i.fdiv j)) := opI fun i j _ _ _ _ _ hc q => by
  refine floordiv_int hc.1 q (.inl (PyProof.noPylong_of_log2 ?_))
  have := log2Lt (show 0 < 8000 by decide) hc.2
  omega
def CPowX (i j : Int) : Prop := 0 ≤ j ∧ (Builtin.Int.intBits i : Int) * j ≤ 2 ^ 27
theorem op_powX {X : Cx} : OpR X (binaryOp .Pow) (rI CPowX fun i j => .int (i ^ j.toNat)) := opI fun _ _ _ _ _ _ _ hc q => pow_int hc.1 hc.2 q
/-- the bound on how many digits a number has -/
theorem beyond {n : Int} (h : -(2 ^ 250) < n ∧ n < 2 ^ 250) : (if n < 0 then -n else n) < ((10 : Int) ^ (50 : Int).toNat) ^ (8 : Int).toNat := by
  have e : (2 : Int) ^ 250 ≤ ((10 : Int) ^ (50 : Int).toNat) ^ (8 : Int).toNat := by decide +kernel
  refine Int.lt_of_lt_of_le ?_ e
  split <;> omega
end EP

namespace FL
open PySem PySem.Spec PyProof.Rows L2 EP
/-! ### tuples that the run makes: their object is known to have no dict -/
def TpO (o : Obj) : Prop := o.cls = .type "tuple" ∧ o.dict = none
/-- a new tuple -/
abbrev NwT (H : Hp) (xs : List V) (Q : VK) : Prop := ∀ p o, H p = none → TpO o → Q (.ref p) (upd H p (.frz o (.tup xs)))
section
variable {X : Cx} {pins : List (Addr × Obj)} {σ : L2.St} {H : Hp} {s : Shared}
theorem laidT {xs : List V} {us : List Value} {h' : Heap} {tk : Nat} {Q : VK} (I : Inv X pins σ H { s with heap := h', toks := tk }) (r : Vals xs us) (z : xs.length ≤ sizeLine) (q : NwT H xs Q) :
    EP X pins σ Q (.ref h'.objs.size) { s with heap := h'.push { cls := .type "tuple", data := .seq us.toArray }, toks := tk } := by
  have e : (h'.push { cls := .type "tuple", data := .seq us.toArray }).get? h'.objs.size = some { cls := .type "tuple", data := .seq us.toArray } := Heap.get?_push_size _ rfl
  exact ⟨.ref h'.objs.size, upd H h'.objs.size (.frz { cls := .type "tuple", data := .seq us.toArray } (.tup xs)), I.laid (t' := tk) (fun b o q => Heap.get?_push_of_some _ q) (Nat.le_refl _) ⟨e, z, us, r, _, e, rfl, _, rfl⟩, rfl, q _ _ (I.hok.fresh (Nat.le_refl _)) ⟨rfl, rfl⟩⟩
/-- (a, b) -/
def tTupF (t : TA) : TE := fun σ H Q => t σ H fun xs H1 => xs.length ≤ sizeLine ∧ NwT H1 xs Q
theorem pe_tupF {es : List Expr} {t : TA} {x1 : Nat} {pos : Pos} (h : PA X es t) : PE X (.Tuple es x1 pos) (tTupF t) :=
  ⟨fun pins s σ H Q I hq => wpAny_Tuple_spliced (thn (h.run pos pins s σ H _ I hq) fun us s1 ⟨xs, H1, I1, r, z, q⟩ => ⟨r.length ▸ z, laidT (s := s1) (tk := s1.toks) I1 r z q⟩)⟩
/-- tuple(xs) -/
def rTupF (K : PySem.W.Frag) : List V → Hp → VK → Prop := fun vs H Q => ∃ p xs, vs = [.ref p] ∧ ((SqL K H p xs ∧ NwT H xs Q) ∨ (SqT K H p xs ∧ Q (.ref p) H))
theorem cr_tupF : CallR X (.type "tuple") (rTupF X.K) := by
  intro pins s σ H vs us Q I r h
  obtain ⟨p, xs, rfl, h⟩ := h
  rw [Vals.ref1 r]
  rcases h with ⟨a, q⟩ | ⟨a, q⟩
  · obtain ⟨its, rv, pl, z⟩ := I.list a
    refine call_tuple_list pl.isList (fun g kp => ?_) (by rw [List.size_toArray, ← rv.length]; exact z)
    exact laidT (s := s) (tk := s.toks) (I.kept (t' := s.toks) kp) rv z q
  · obtain ⟨its, rv, pl, z⟩ := I.tuple a
    exact call_tuple_same pl ⟨.ref p, H, I, rfl, q⟩
/-- t + u -/
def rCatF (K : PySem.W.Frag) : R2 := fun x y H Q => ∃ a b xs ys, x = .ref a ∧ y = .ref b ∧ SqT K H a xs ∧ SqT K H b ys ∧ xs.length + ys.length ≤ sizeLine ∧ (xs = [] → Q (.ref b) H) ∧ (ys = [] → Q (.ref a) H) ∧ NwT H (xs ++ ys) Q
theorem op_catF : OpR X (binaryOp .Add) (rCatF X.K) := by
  intro pins s σ H x y v u Q I rx ry h
  obtain ⟨a, b, xs, ys, rfl, rfl, ha, hb, z, q0, q1, q2⟩ := h
  cases rx
  cases ry
  obtain ⟨is1, r1, p1, _⟩ := I.tuple ha
  obtain ⟨is2, r2, p2, _⟩ := I.tuple hb
  cases xs with
  | nil =>
    cases r1
    exact cat_tup0 p1 p2 ⟨.ref b, H, I, rfl, q0 rfl⟩
  | cons w ws =>
    refine HT.cat_tup p1 p2 (fun e => by cases r1.nil_iff.mp e) (fun e => ⟨.ref a, H, I, rfl, q1 (r2.nil_iff.mp e)⟩) (fun _ => ?_) (by rw [← r1.length, ← r2.length]; exact z)
    exact laidT (s := s) (tk := s.toks) I (r1.append r2) (by rw [List.length_append]; exact z) q2
/-- t[lo:hi] -/
def rSlF (K : PySem.W.Frag) : V → Option Int → Option Int → Hp → VK → Prop := fun x lo hi H Q => ∃ a xs, x = .ref a ∧ SqT K H a xs ∧ (HT.sIx xs.length 0 lo = 0 ∧ HT.sIx xs.length xs.length hi = xs.length → Q (.ref a) H) ∧ NwT H (cutV xs lo hi) Q
theorem sl_tupF : SlR X (rSlF X.K) := by
  intro pins s σ H x v vl vu lo hi sl Q I rx hs pl pu h
  obtain ⟨a, xs, rfl, hx, q1, q2⟩ := h
  cases rx
  obtain ⟨its, rv, ht, z⟩ := I.tuple hx
  have sz : its.toArray.size = xs.length := by rw [List.size_toArray, ← rv.length]
  refine ⟨"tuple", _, PyProof.Rows.slot_tuple_getitem.lookup, ht.typeIs, ?_⟩
  by_cases c : HT.sIx xs.length 0 lo = 0 ∧ HT.sIx xs.length xs.length hi = xs.length
  · exact getItem_tuple_whole ht hs pl pu (sz ▸ c) ⟨.ref a, H, I, rfl, q1 c⟩
  · refine HT.getItem_tuple_cut ht hs pl pu (sz ▸ c) ?_ (sz ▸ z)
    rw [sz]
    exact laidT (s := s) (tk := s.toks) I ((rv.drop (HT.sIx xs.length 0 lo)).take (HT.sIx xs.length xs.length hi - HT.sIx xs.length 0 lo)) (Nat.le_trans (cutV_length xs lo hi) z) q2
/-- tuple(range(..)) -/
def tTupRF (te : L2.St → Hp → (Int → Int → Hp → Prop) → Prop) : TE := fun σ H Q => te σ H fun a b H1 => RgOk a b ∧ NwT H1 (rgV a b) Q
theorem pe_tupRF {e : Expr} {te : L2.St → Hp → (Int → Int → Hp → Prop) → Prop} {p pos : Pos} (hc : X.calm = true) (hg : Gl X "tuple") (hm : X.mg "tuple" = none) (he : PRg X e te) (na : starEach [e] X.env = (false, eval e X.env) :: starEach [] X.env := by rfl) :
    PE X (.Call (.Name "tuple" p) [e] [] pos) (tTupRF te) := by
  refine ⟨fun pins s σ H Q I h => Call_ (ld_blt I hg hm boot_tuple (PyProof.Rows.callWith_type1 (args_cons (thn (he pins s σ H _ I h) fun x s1 w => args_nil ?_) na) na))⟩
  obtain ⟨r, a, b, t, u, v, H1, rfl, hr, I1, ⟨b1, b2, b3, b4, b5⟩, q⟩ := w
  refine call_tuple_range (n := (b - a).toNat) (I1.ok.hd hc) hr (small_one b1 b2 b3 b4) (rangeSize_nat a b) b5 fun g tk acc hk hi => ?_
  have := laidT (s := s1) (tk := tk) (h' := g) (us := acc.toList) (I1.kept hk) (vals_rg hi) (by rw [rgV_length, sizeLine_eq]; omega) q
  rwa [Array.toArray_toList] at this
/-- t * k -/
def rRepF (K : PySem.W.Frag) : R2 := fun x y H Q => ∃ l k xs, x = .ref l ∧ y = .int k ∧ SqT K H l xs ∧ xs ≠ [] ∧ 2 ≤ k ∧ k ≤ 1000 ∧ xs.length ≤ 1000 ∧ NwT H (List.replicate k.toNat xs).flatten Q
theorem flat_le {α : Type} (xs : List α) {k : Int} (h : k ≤ 1000) (z : xs.length ≤ 1000) : (List.replicate k.toNat xs).flatten.length ≤ sizeLine := by
  rw [PyProof.Rows.lm_len_rep_flat, sizeLine_eq]
  exact Nat.le_trans (Nat.mul_le_mul (show k.toNat ≤ 1000 by omega) z) (by decide)
theorem op_repF : OpR X (binaryOp .Mult) (rRepF X.K) := by
  intro pins s σ H x y v u Q I rx ry h
  obtain ⟨l, k, xs, rfl, rfl, tu, ne, k2, km, z, q⟩ := h
  cases rx
  obtain ⟨tk, rfl⟩ := ry
  obtain ⟨its, rv, ⟨⟨cls, dct, dat, slo⟩, at1, ec, n1, ed⟩, _⟩ := I.tuple tu
  simp only at ec ed
  subst ec ed
  have len := rv.length
  have em : its.toArray.isEmpty = false := by
    cases its with
    | nil => exact absurd (List.eq_nil_of_length_eq_zero len) ne
    | cons _ _ => rfl
  have sz : its.toArray.size = xs.length := by rw [List.size_toArray, len]
  have few : ((its.toArray.size : Nat) : Int) * k ≤ 1000000 := by
    rw [sz]
    have := Int.mul_le_mul_of_nonneg_right (show ((xs.length : Nat) : Int) ≤ 1000 by omega) (show 0 ≤ k by omega)
    omega
  have k0 : (decide (k < -(2 ^ 63)) || decide (k ≥ 2 ^ 63)) = false := by simp; omega
  have k1 : (its.toArray.isEmpty || k == 1) = false := by simp [em]; omega
  have k3 : (decide (k ≤ 0) || its.toArray.isEmpty) = false := by simp [em]; omega
  have k4 : Builtin.Tuple.tupleTooMany (((its.toArray.size : Nat) : Int) * k) = false := by
    unfold Builtin.Tuple.tupleTooMany
    exact decide_eq_false (by rw [sizeLine_eq]; omega)
  have fl := flat_le its km (by omega)
  have W := tuple_mulW l its.toArray n1 dct slo k tk k0 k1 k3 (by omega) k4 (by rw [size_rep, List.size_toArray]; exact fl)
  refine wpAny_binaryOp_repeat_ref (T := "tuple") (U := "int") (by decide) ⟨_, at1, rfl⟩ (fun r => typeIs_int r k tk) noFill_tuple_mul F.fills_int_mul F.slot_int_rmul repeat_tuple F.slot_int_index.lookup ?_
  refine call_meets F.slot_int_rmul (typeIs_int s k tk) F.entry_int_rmul (F.args_int_rmul_2 _ _) (int_rmul_tuple k tk l its.toArray n1 dct slo) ⟨at1, rfl, ⟨_, at1, rfl⟩, ?_⟩
  refine call_meets F.slot_tuple_mul ⟨_, at1, rfl⟩ F.entry_tuple_mul (F.args_tuple_mul_2 _ _) W ⟨at1, ?_⟩
  rw [size_rep]
  exact laidT (s := s) (tk := s.toks) I (rv.rep k.toNat) (flat_le xs km z) q
end
end FL

namespace FL
open PySem PySem.Spec PyProof.Rows L2 EP
/-- a test that no kernel works out: its answer is told by cdec_iff alone -/
noncomputable def cdec (p : Prop) : Bool := @decide p (Classical.propDecidable p)
theorem cdec_iff {p : Prop} : cdec p = true ↔ p := ⟨fun h => @of_decide_eq_true p (Classical.propDecidable p) h, fun h => @decide_eq_true p (Classical.propDecidable p) h⟩
theorem cdec_of {p : Prop} (h : p) : cdec p = true := cdec_iff.mpr h
theorem of_cdec {p : Prop} (h : cdec p = true) : p := cdec_iff.mp h
abbrev D := PyData
abbrev Pot := List Int
/-- what a name of a def holds: nothing that matters, data that nothing changes, a list that the def may read alone, a list or dict of its own, the pot -/
inductive Slot where
  | un | dat (d : D) | arg (ds : List D) | own (ds : List D) | dct (kvs : List (Key × D)) | pot | scr (ns : List Int)
abbrev En := List Slot
def Slot.isOwn : Slot → Bool
  | .own _ => true
  | .dct _ => true
  | _ => false
@[simp] theorem isOwn_un : Slot.un.isOwn = false := rfl
@[simp] theorem isOwn_dat (d : D) : (Slot.dat d).isOwn = false := rfl
@[simp] theorem isOwn_arg (d : List D) : (Slot.arg d).isOwn = false := rfl
@[simp] theorem isOwn_own (d : List D) : (Slot.own d).isOwn = true := rfl
@[simp] theorem isOwn_pot : Slot.pot.isOwn = false := rfl
/-- what belongs to a def's run: addresses that it must not hand on, its pot -/
structure Fm where
  S0 : Addr → Prop
  pt : Option Addr
/-- a key as data -/
def keyV : Key → D
  | .inl i => .int i
  | .inr s => .str s
section
variable (K : PySem.W.Frag)
def STp (H : Hp) (S : Addr → Prop) (a : Addr) (xs : List V) : Prop := (∃ o, TpO o ∧ H a = some (.frz o (.tup xs)) ∧ ¬ S a) ∨
  ∃ (o : Obj) (its : Array Value) (n : Nat), K.lookup a = some o ∧ TpO o ∧ o.data = .seq its n ∧ its.size ≤ sizeLine ∧ Vals xs its.toList
mutual
/-- the value v is the data d, by objects that are not of S -/
inductive Dv (H : Hp) (S : Addr → Prop) : V → D → Prop
  | non : Dv H S .non .none
  | bl (b : Bool) : Dv H S (.bl b) (.bool b)
  | int (i : Int) : Dv H S (.int i) (.int i)
  | str (x : Str) : Dv H S (.str x) (.str x)
  | lst {a : Addr} {xs : List V} {ds : List D} : H a = some (.lst xs) → ¬ S a → DvA H S xs ds → Dv H S (.ref a) (.list ds)
  | tup {a : Addr} {xs : List V} {ds : List D} : STp K H S a xs → DvA H S xs ds → Dv H S (.ref a) (.tuple ds)
  | dct {a : Addr} {o : Obj} {ks : List (Key × V)} {kvs : List (D × D)} : H a = some (.frz o (.dK ks)) → ¬ S a → ks.map (fun kv => keyV kv.1) = kvs.map (·.1) → DvA H S (ks.map (·.2)) (kvs.map (·.2)) → Dv H S (.ref a) (.dict kvs)
inductive DvA (H : Hp) (S : Addr → Prop) : List V → List D → Prop
  | nil : DvA H S [] []
  | cons {v : V} {vs : List V} {d : D} {ds : List D} : Dv H S v d → DvA H S vs ds → DvA H S (v :: vs) (d :: ds)
end
end
variable {K : PySem.W.Frag}
/-! ### how the heap goes on -/
/-- a state: what may change, what must not be handed on, the heap -/
structure Wd where
  U : Addr → Prop
  S : Addr → Prop
  H : Hp
structure Step (A B : Wd) : Prop where
  keep : ∀ b o, ¬ A.U b → A.H b = some o → B.H b = some o
  u : ∀ a, B.U a → A.U a ∨ A.H a = none
  s : ∀ a, B.S a → A.S a ∨ A.H a = none
theorem Step.refl (A : Wd) : Step A A := ⟨fun _ _ _ h => h, fun _ h => .inl h, fun _ h => .inl h⟩
theorem Step.none {A B : Wd} (x : Step A B) {a : Addr} (h : B.H a = none) : A.U a ∨ A.H a = none := by
  by_cases c : A.U a
  · exact .inl c
  · cases e : A.H a with
    | none => exact .inr rfl
    | some o => rw [x.keep a o c e] at h; cases h
theorem Step.trans {A B C : Wd} (us : ∀ a, A.U a → A.S a) (x : Step A B) (y : Step B C) : Step A C := by
  refine ⟨fun b o n e => ?_, fun a h => ?_, fun a h => ?_⟩
  · refine y.keep b o (fun z => ?_) (x.keep b o n e)
    rcases x.u b z with q | q
    · exact n q
    · rw [q] at e; cases e
  · rcases y.u a h with q | q
    · exact x.u a q
    · exact x.none q
  · rcases y.s a h with q | q
    · exact x.s a q
    · rcases x.none q with r | r
      · exact .inl (us a r)
      · exact .inr r
theorem STp.step {A B : Wd} (us : ∀ a, A.U a → A.S a) (x : Step A B) {a : Addr} {xs : List V} (h : STp K A.H A.S a xs) : STp K B.H B.S a xs := by
  rcases h with ⟨o, ty, r, n⟩ | h
  · refine .inl ⟨o, ty, x.keep _ _ (fun z => n (us a z)) r, fun z => ?_⟩
    rcases x.s a z with q | q
    · exact n q
    · rw [q] at r; cases r
  · exact .inr h
theorem Step.sn {A B : Wd} (x : Step A B) {a : Addr} {o : HO} (e : A.H a = some o) (n : ¬ A.S a) : ¬ B.S a := fun z => by
  rcases x.s a z with q | q
  · exact n q
  · rw [q] at e; cases e
theorem Dv.step {A B : Wd} (us : ∀ a, A.U a → A.S a) (x : Step A B) {d : D} {v : V} (h : Dv K A.H A.S v d) : Dv K B.H B.S v d :=
  Dv.rec (motive_1 := fun v d _ => Dv K B.H B.S v d) (motive_2 := fun vs ds _ => DvA K B.H B.S vs ds) .non (fun b => .bl b) (fun i => .int i) (fun s => .str s)
    (fun e n _ r => .lst (x.keep _ _ (fun z => n (us _ z)) e) (x.sn e n) r) (fun e _ r => .tup (e.step us x) r)
    (fun e n m _ r => .dct (x.keep _ _ (fun z => n (us _ z)) e) (x.sn e n) m r) .nil (fun _ _ a b => .cons a b) h
theorem DvA.step {A B : Wd} (us : ∀ a, A.U a → A.S a) (x : Step A B) : ∀ {ds : List D} {vs : List V}, DvA K A.H A.S vs ds → DvA K B.H B.S vs ds
  | [], _, h => by cases h; exact .nil
  | d :: ds, _, h => by cases h with | cons a b => exact .cons (Dv.step us x a) (DvA.step us x b)
theorem DvA.length {H : Hp} {S : Addr → Prop} : ∀ {vs : List V} {ds : List D}, DvA K H S vs ds → vs.length = ds.length
  | _, _, .nil => rfl
  | _, _, .cons _ r => congrArg (· + 1) r.length
theorem DvA.get {H : Hp} {S : Addr → Prop} : ∀ {vs : List V} {ds : List D} {i : Nat} {d : D}, DvA K H S vs ds → ds[i]? = some d → ∃ v, vs[i]? = some v ∧ Dv K H S v d
  | _, _, i, d, .nil, h => by simp at h
  | _, _, 0, d, .cons a _, h => by simp at h; subst h; exact ⟨_, rfl, a⟩
  | _, _, i + 1, d, .cons _ r, h => by
    rw [List.getElem?_cons_succ] at h
    obtain ⟨v, e, q⟩ := r.get h
    exact ⟨v, by rw [List.getElem?_cons_succ]; exact e, q⟩
theorem DvA.append {H : Hp} {S : Addr → Prop} {vs ws : List V} {ds es : List D} (a : DvA K H S vs ds) (b : DvA K H S ws es) : DvA K H S (vs ++ ws) (ds ++ es) := by
  induction ds generalizing vs with
  | nil => cases a; exact b
  | cons d ds ih => cases a with | cons x y => exact .cons x (ih y)
theorem DvA.set {H : Hp} {S : Addr → Prop} {v : V} {d : D} (h : Dv K H S v d) : ∀ {vs : List V} {ds : List D} (i : Nat), DvA K H S vs ds → DvA K H S (vs.set i v) (ds.set i d)
  | _, _, _, .nil => .nil
  | _, _, 0, .cons _ r => .cons h r
  | _, _, i + 1, .cons a r => .cons a (r.set h i)
theorem DvA.take {H : Hp} {S : Addr → Prop} : ∀ {vs : List V} {ds : List D} (n : Nat), DvA K H S vs ds → DvA K H S (vs.take n) (ds.take n)
  | _, _, _, .nil => by simp only [List.take_nil]; exact .nil
  | _, _, 0, .cons _ _ => .nil
  | _, _, n + 1, .cons a r => .cons a (r.take n)
theorem DvA.drop {H : Hp} {S : Addr → Prop} : ∀ {vs : List V} {ds : List D} (n : Nat), DvA K H S vs ds → DvA K H S (vs.drop n) (ds.drop n)
  | _, _, _, .nil => by simp only [List.drop_nil]; exact .nil
  | _, _, 0, .cons a r => .cons a r
  | _, _, n + 1, .cons a r => r.drop n
theorem DvA.reverse {H : Hp} {S : Addr → Prop} {vs : List V} {ds : List D} (a : DvA K H S vs ds) : DvA K H S vs.reverse ds.reverse := by
  induction ds generalizing vs with
  | nil => cases a; exact .nil
  | cons d ds ih => cases a with | cons x y => rw [List.reverse_cons, List.reverse_cons]; exact (ih y).append (.cons x .nil)
/-- as data of the kit -/
theorem STp.sq {H : Hp} {S : Addr → Prop} {a : Addr} {xs : List V} (h : STp K H S a xs) : SqT K H a xs := by
  rcases h with ⟨o, _, r, _⟩ | ⟨o, its, n, lk, ty, e, z, r⟩
  · exact .inl (.inr ⟨o, r⟩)
  · exact .inr ⟨o, its, n, lk, ty.1, e, z, r⟩
mutual
theorem Dv.dp {H : Hp} {S : Addr → Prop} : ∀ {d : D} {v : V}, d.canLay0 = true → Dv K H S v d → Dp K H v d
  | .none, _, _, h => by cases h; exact .non
  | .bool b, _, _, h => by cases h; exact .bl b
  | .int i, _, _, h => by cases h; exact .int i
  | .str s, _, _, h => by cases h; exact .str s
  | .list ds, _, c, h => by cases h with | lst e n r => exact .lst (sqL e) (DvA.dp (by simpa [PyData.canLay0] using c) r)
  | .tuple ds, _, c, h => by cases h with | tup e r => exact .tup e.sq (DvA.dp (by simpa [PyData.canLay0] using c) r)
  | .dict _, _, c, h => by simp [PyData.canLay0] at c
theorem DvA.dp {H : Hp} {S : Addr → Prop} : ∀ {ds : List D} {vs : List V}, PyData.canLayAll0 ds = true → DvA K H S vs ds → DpAll K H vs ds
  | [], _, _, h => by cases h; exact .nil
  | d :: ds, _, c, h => by
    have c2 : d.canLay0 = true ∧ PyData.canLayAll0 ds = true := by simpa [PyData.canLayAll0] using c
    cases h with | cons a b => exact .cons (Dv.dp c2.1 a) (DvA.dp c2.2 b)
end
/-! ### a def's names -/
def IsOwn (σ : L2.St) (ρ : En) (a : Addr) : Prop := ∃ (i : Nat) (s : Slot), ρ[i]? = some s ∧ s.isOwn = true ∧ σ[i]? = some (some (.ref a))
def wd (fr : Fm) (σ : L2.St) (ρ : En) (H : Hp) : Wd := ⟨fun a => fr.pt = some a ∨ IsOwn σ ρ a, fun a => fr.S0 a ∨ IsOwn σ ρ a, H⟩
def SlotOk (K : PySem.W.Frag) (fr : Fm) (A : Wd) (o : Option (Option V)) : Slot → Prop
  | .un => True
  | .dat d => ∃ v, o = some (some v) ∧ Dv K A.H A.S v d
  | .arg ds => ∃ a xs, o = some (some (.ref a)) ∧ A.H a = some (.lst xs) ∧ ¬ A.U a ∧ DvA K A.H A.S xs ds
  | .own ds => ∃ a xs, o = some (some (.ref a)) ∧ A.H a = some (.lst xs) ∧ DvA K A.H A.S xs ds
  | .dct kvs => ∃ a ks, o = some (some (.ref a)) ∧ A.H a = some (.dK ks) ∧ ks.map (·.1) = kvs.map (·.1) ∧ DvA K A.H A.S (ks.map (·.2)) (kvs.map (·.2))
  | .pot => ∃ a, o = some (some (.ref a)) ∧ fr.pt = some a
  | .scr ns => ∃ a, o = some (some (.ref a)) ∧ SqL K A.H a (ns.map V.int) ∧ ¬ A.U a
structure Rel (K : PySem.W.Frag) (fr : Fm) (σ : L2.St) (H : Hp) (ρ : En) (π : Pot) : Prop where
  len : σ.length = ρ.length
  slot : ∀ (i : Nat) (s : Slot), ρ[i]? = some s → SlotOk K fr (wd fr σ ρ H) σ[i]? s
  nd : ∀ (i j : Nat) (s t : Slot) (a : Addr), ρ[i]? = some s → ρ[j]? = some t → s.isOwn = true → t.isOwn = true → σ[i]? = some (some (.ref a)) → σ[j]? = some (some (.ref a)) → i = j
  all : ∀ a, fr.S0 a → H a ≠ none
  pt : ∀ a, fr.pt = some a → fr.S0 a ∧ ¬ IsOwn σ ρ a ∧ H a = some (.lst (π.map V.int))
  os : ∀ a, IsOwn σ ρ a → ¬ fr.S0 a
theorem Rel.us {fr : Fm} {σ : L2.St} {H : Hp} {ρ : En} {π : Pot} (r : Rel K fr σ H ρ π) : ∀ a, (wd fr σ ρ H).U a → (wd fr σ ρ H).S a := by
  rintro a (h | h)
  · exact .inl (r.pt a h).1
  · exact .inr h
theorem Rel.ownSome {fr : Fm} {σ : L2.St} {H : Hp} {ρ : En} {π : Pot} (r : Rel K fr σ H ρ π) {a : Addr} (h : IsOwn σ ρ a) : H a ≠ none := by
  obtain ⟨i, s, e, o, q⟩ := h
  have z := r.slot i s e
  cases s with
  | own ds =>
    obtain ⟨b, xs, e2, e3, _⟩ := z
    rw [q] at e2
    cases e2
    intro y
    have e3 : H a = _ := e3
    rw [y] at e3; cases e3
  | dct kvs =>
    obtain ⟨b, xs, e2, e3, _⟩ := z
    rw [q] at e2
    cases e2
    intro y
    have e3 : H a = _ := e3
    rw [y] at e3; cases e3
  | _ => cases o
theorem Rel.sSome {fr : Fm} {σ : L2.St} {H : Hp} {ρ : En} {π : Pot} (r : Rel K fr σ H ρ π) {a : Addr} (h : (wd fr σ ρ H).S a) : H a ≠ none := by
  rcases h with h | h
  · exact r.all a h
  · exact r.ownSome h
/-- within an expression nothing changes but the pot -/
def ChgP (fr : Fm) (H H' : Hp) : Prop := ∀ b o, fr.pt ≠ some b → H b = some o → H' b = some o
theorem ChgP.refl (fr : Fm) (H : Hp) : ChgP fr H H := fun _ _ _ h => h
theorem ChgP.trans {fr : Fm} {H H1 H2 : Hp} (x : ChgP fr H H1) (y : ChgP fr H1 H2) : ChgP fr H H2 := fun b o n h => y b o n (x b o n h)
theorem ChgP.of {fr : Fm} {H H' : Hp} (k : Kp H H') : ChgP fr H H' := fun b o _ h => k b o h
theorem ChgP.step {fr : Fm} {H H' : Hp} (σ : L2.St) (ρ : En) (x : ChgP fr H H') : Step (wd fr σ ρ H) (wd fr σ ρ H') :=
  ⟨fun b o n h => x b o (fun z => n (.inl z)) h, fun _ h => .inl h, fun _ h => .inl h⟩
theorem SlotOk.stepP {fr : Fm} {A B : Wd} {o : Option (Option V)} {s : Slot} (us : ∀ a, A.U a → A.S a) (x : Step A B) (eu : ∀ a, B.U a → A.U a)
    (keep : s.isOwn = true → ∀ a u, o = some (some (.ref a)) → A.H a = some u → B.H a = some u) (h : SlotOk K fr A o s) : SlotOk K fr B o s := by
  cases s with
  | un => trivial
  | dat d => obtain ⟨v, e, q⟩ := h; exact ⟨v, e, q.step us x⟩
  | arg ds => obtain ⟨a, xs, e, q, n, r⟩ := h; exact ⟨a, xs, e, x.keep _ _ n q, fun z => n (eu a z), r.step us x⟩
  | own ds => obtain ⟨a, xs, e, q, r⟩ := h; exact ⟨a, xs, e, keep rfl a _ e q, r.step us x⟩
  | dct kvs => obtain ⟨a, ks, e, q, m, r⟩ := h; exact ⟨a, ks, e, keep rfl a _ e q, m, r.step us x⟩
  | pot => exact h
  | scr ns =>
    obtain ⟨a, e, q, n⟩ := h
    refine ⟨a, e, ?_, fun z => n (eu a z)⟩
    rcases q with (q | ⟨u, q⟩) | q
    · exact .inl (.inl (x.keep _ _ n q))
    · exact .inl (.inr ⟨u, x.keep _ _ n q⟩)
    · exact .inr q
/-- the same names over a heap that went on -/
theorem Rel.chg {fr : Fm} {σ : L2.St} {H H' : Hp} {ρ : En} {π π' : Pot} (r : Rel K fr σ H ρ π) (x : ChgP fr H H')
    (p : ∀ a, fr.pt = some a → H' a = some (.lst (π'.map V.int))) : Rel K fr σ H' ρ π' := by
  have st := x.step σ ρ
  refine ⟨r.len, fun i s e => ?_, r.nd, fun a h => ?_, fun a h => ⟨(r.pt a h).1, (r.pt a h).2.1, p a h⟩, r.os⟩
  · refine (r.slot i s e).stepP r.us st (fun _ h => h) fun o a u e2 q => ?_
    refine x a u (fun z => ?_) q
    exact (r.pt a z).2.1 ⟨i, s, e, o, e2⟩
  · intro z
    by_cases c : fr.pt = some a
    · rw [p a c] at z; cases z
    · cases q : H a with
      | none => exact r.all a h q
      | some o => rw [x a o c q] at z; cases z
/-- a heap that grew -/
theorem Rel.kp {fr : Fm} {σ : L2.St} {H H' : Hp} {ρ : En} {π : Pot} (r : Rel K fr σ H ρ π) (k : Kp H H') : Rel K fr σ H' ρ π := by
  exact r.chg (.of k) fun a h => k _ _ (r.pt a h).2.2
/-! ### expressions -/
abbrev Ex := En → Pot → Option (D × Pot)
/-- data, or a list that may be read alone -/
def Db (K : PySem.W.Frag) (fr : Fm) (H : Hp) (S : Addr → Prop) (v : V) (d : D) : Prop :=
  Dv K H S v d ∨ ∃ a xs ds, v = .ref a ∧ fr.pt ≠ some a ∧ d = .list ds ∧ H a = some (.lst xs) ∧ DvA K H S xs ds
/-- a new list -/
def Dn (K : PySem.W.Frag) (H0 H : Hp) (S : Addr → Prop) (v : V) (d : D) : Prop :=
  ∃ p xs ds, v = .ref p ∧ d = .list ds ∧ H0 p = none ∧ H p = some (.lst xs) ∧ ¬ S p ∧ DvA K H (fun a => S a ∨ a = p) xs ds
structure EF (K : PySem.W.Frag) (t : TE) (f : Ex) : Prop where
  go : ∀ (fr : Fm) (σ : L2.St) (H : Hp) (ρ : En) (π : Pot), Rel K fr σ H ρ π → ∀ d π', f ρ π = some (d, π') → ∀ Q : VK,
    (∀ v H', Rel K fr σ H' ρ π' → ChgP fr H H' → Dv K H' (wd fr σ ρ H').S v d → Q v H') → t σ H Q
structure BF (K : PySem.W.Frag) (t : TE) (f : Ex) : Prop where
  go : ∀ (fr : Fm) (σ : L2.St) (H : Hp) (ρ : En) (π : Pot), Rel K fr σ H ρ π → ∀ d π', f ρ π = some (d, π') → ∀ Q : VK,
    (∀ v H', Rel K fr σ H' ρ π' → ChgP fr H H' → Db K fr H' (wd fr σ ρ H').S v d → Q v H') → t σ H Q
structure NF (K : PySem.W.Frag) (t : TE) (f : Ex) : Prop where
  go : ∀ (fr : Fm) (σ : L2.St) (H : Hp) (ρ : En) (π : Pot), Rel K fr σ H ρ π → ∀ d π', f ρ π = some (d, π') → ∀ Q : VK,
    (∀ v H', Rel K fr σ H' ρ π' → ChgP fr H H' → Dn K H H' (wd fr σ ρ H').S v d → Q v H') → t σ H Q
theorem Dv.weak {H : Hp} {S S' : Addr → Prop} (w : ∀ a, S' a → S a) {v : V} {d : D} (h : Dv K H S v d) : Dv K H S' v d :=
  Dv.step (A := ⟨fun _ => False, S, H⟩) (B := ⟨fun _ => False, S', H⟩) (fun _ z => z.elim) ⟨fun _ _ _ h => h, fun _ z => z.elim, fun a h => .inl (w a h)⟩ h
theorem DvA.weak {H : Hp} {S S' : Addr → Prop} (w : ∀ a, S' a → S a) {v : List V} {d : List D} (h : DvA K H S v d) : DvA K H S' v d :=
  DvA.step (A := ⟨fun _ => False, S, H⟩) (B := ⟨fun _ => False, S', H⟩) (fun _ z => z.elim) ⟨fun _ _ _ h => h, fun _ z => z.elim, fun a h => .inl (w a h)⟩ h
theorem DvA.up {H H' : Hp} {S S' : Addr → Prop} (k : Kp H H') (w : ∀ a, S' a → S a ∨ H a = none) {v : List V} {d : List D} (h : DvA K H S v d) : DvA K H' S' v d :=
  DvA.step (A := ⟨fun _ => False, S, H⟩) (B := ⟨fun _ => False, S', H'⟩) (fun _ z => z.elim) ⟨fun b o _ h => k b o h, fun _ z => z.elim, fun a h => w a h⟩ h
theorem Dv.up {H H' : Hp} {S S' : Addr → Prop} (k : Kp H H') (w : ∀ a, S' a → S a ∨ H a = none) {v : V} {d : D} (h : Dv K H S v d) : Dv K H' S' v d :=
  Dv.step (A := ⟨fun _ => False, S, H⟩) (B := ⟨fun _ => False, S', H'⟩) (fun _ z => z.elim) ⟨fun b o _ h => k b o h, fun _ z => z.elim, fun a h => w a h⟩ h
theorem Dn.dv {H0 H : Hp} {S : Addr → Prop} {v : V} {d : D} (h : Dn K H0 H S v d) : Dv K H S v d := by
  obtain ⟨p, xs, ds, rfl, rfl, _, e, n, r⟩ := h
  exact .lst e n (r.weak fun a h => .inl h)
theorem NF.ef {t : TE} {f : Ex} (h : NF K t f) : EF K t f := ⟨fun fr σ H ρ π r d π' e Q q => h.go fr σ H ρ π r d π' e Q fun v H' r' c n => q v H' r' c n.dv⟩
theorem EF.bf {t : TE} {f : Ex} (h : EF K t f) : BF K t f := ⟨fun fr σ H ρ π r d π' e Q q => h.go fr σ H ρ π r d π' e Q fun v H' r' c n => q v H' r' c (.inl n)⟩
theorem NF.bf {t : TE} {f : Ex} (h : NF K t f) : BF K t f := h.ef.bf
theorem Db.chg {fr : Fm} {σ : L2.St} {ρ : En} {π : Pot} {H H' : Hp} {v : V} {d : D} (r : Rel K fr σ H ρ π) (x : ChgP fr H H') (h : Db K fr H (wd fr σ ρ H).S v d) : Db K fr H' (wd fr σ ρ H').S v d := by
  have st := x.step σ ρ
  rcases h with h | ⟨a, xs, ds, e, n, e2, q, z⟩
  · exact .inl (h.step r.us st)
  · exact .inr ⟨a, xs, ds, e, n, e2, x _ _ n q, z.step r.us st⟩
theorem Db.flat {fr : Fm} {H : Hp} {S : Addr → Prop} {v : V} {d : D} (h : Db K fr H S v d) (n : ∀ ds, d ≠ .list ds) : Dv K H S v d := by
  rcases h with h | ⟨a, xs, ds, e, _, e2, _⟩
  · exact h
  · exact absurd e2 (n ds)
theorem Db.int {fr : Fm} {H : Hp} {S : Addr → Prop} {v : V} {i : Int} (h : Db K fr H S v (.int i)) : v = .int i := by
  have := h.flat (fun ds z => by cases z); cases this; rfl
theorem Db.bool {fr : Fm} {H : Hp} {S : Addr → Prop} {v : V} {i : Bool} (h : Db K fr H S v (.bool i)) : v = .bl i := by
  have := h.flat (fun ds z => by cases z); cases this; rfl
theorem Db.str {fr : Fm} {H : Hp} {S : Addr → Prop} {v : V} {i : Str} (h : Db K fr H S v (.str i)) : v = .str i := by
  have := h.flat (fun ds z => by cases z); cases this; rfl
theorem Db.non {fr : Fm} {H : Hp} {S : Addr → Prop} {v : V} (h : Db K fr H S v .none) : v = .non := by
  have := h.flat (fun ds z => by cases z); cases this; rfl
theorem Db.list {fr : Fm} {H : Hp} {S : Addr → Prop} {v : V} {ds : List D} (h : Db K fr H S v (.list ds)) : ∃ a xs, v = .ref a ∧ H a = some (.lst xs) ∧ DvA K H S xs ds := by
  rcases h with h | ⟨a, xs, es, e, n, e2, q, z⟩
  · cases h with | lst e n r => exact ⟨_, _, rfl, e, r⟩
  · cases e2; exact ⟨a, xs, e, q, z⟩
theorem Db.tuple {fr : Fm} {H : Hp} {S : Addr → Prop} {v : V} {ds : List D} (h : Db K fr H S v (.tuple ds)) : ∃ a xs, v = .ref a ∧ STp K H S a xs ∧ DvA K H S xs ds := by
  have := h.flat (fun ds z => by cases z); cases this with | tup e r => exact ⟨_, _, rfl, e, r⟩
theorem Db.dp {fr : Fm} {H : Hp} {S : Addr → Prop} {v : V} {d : D} (c : d.canLay0 = true) (h : Db K fr H S v d) : Dp K H v d := by
  rcases h with h | ⟨a, xs, ds, rfl, _, rfl, q, z⟩
  · exact h.dp c
  · exact .lst (sqL q) (z.dp (by simpa [PyData.canLay0] using c))
theorem shaped_lay {d : D} (h : SeqAt.shaped d = true) : d.canLay0 = true := by
  have h2 : (d.canLay0 && decide (d.depth ≤ 64)) = true := h
  rw [Bool.and_eq_true] at h2
  exact h2.1
end FL

noncomputable section
namespace FL
open PySem PySem.Spec PyProof.Rows L2 EP
variable {K : PySem.W.Frag}
/-! ### names and constants -/
@[simp] def xVar (i : Nat) : Ex := fun ρ π => match ρ[i]? with
  | some (.dat d) => some (d, π)
  | _ => none
@[simp] def xC (d : D) : Ex := fun _ π => some (d, π)
theorem ef_var (i : Nat) : EF K (tVar i) (xVar i) := by
  refine ⟨fun fr σ H ρ π R d π' e Q q => ?_⟩
  unfold xVar at e
  split at e
  · rename_i s hs
    cases e
    obtain ⟨v, ev, dv⟩ := R.slot i _ hs
    exact ⟨v, ev, q v H R (.refl _ _) dv⟩
  · cases e
/-- a list's items alone, at once: the pot too -/
theorem ef_int {i : Int} : EF K (tC (.int i)) (xC (.int i)) := ⟨fun fr σ H ρ π R d π' e Q q => by cases e; exact q _ H R (.refl _ _) (.int _)⟩
theorem ef_bool {i : Bool} : EF K (tC (.bl i)) (xC (.bool i)) := ⟨fun fr σ H ρ π R d π' e Q q => by cases e; exact q _ H R (.refl _ _) (.bl _)⟩
theorem ef_str {i : Str} : EF K (tC (.str i)) (xC (.str i)) := ⟨fun fr σ H ρ π R d π' e Q q => by cases e; exact q _ H R (.refl _ _) (.str _)⟩
theorem ef_non : EF K (tC .non) (xC .none) := ⟨fun fr σ H ρ π R d π' e Q q => by cases e; exact q _ H R (.refl _ _) .non⟩
/-- a list that is read where it stands -/
@[simp] def xBo (i : Nat) : Ex := fun ρ π => match ρ[i]? with
  | some (.dat d) => some (d, π)
  | some (.arg ds) => some (.list ds, π)
  | some (.own ds) => some (.list ds, π)
  | _ => none
theorem bf_var (i : Nat) : BF K (tVar i) (xBo i) := by
  refine ⟨fun fr σ H ρ π R d π' e Q q => ?_⟩
  unfold xBo at e
  split at e
  · rename_i s hs
    cases e
    obtain ⟨v, ev, dv⟩ := R.slot i _ hs
    exact ⟨v, ev, q v H R (.refl _ _) (.inl dv)⟩
  · rename_i s hs
    cases e
    obtain ⟨a, xs, ev, ea, nu, dv⟩ := R.slot i _ hs
    exact ⟨_, ev, q _ H R (.refl _ _) (.inr ⟨a, xs, s, rfl, fun z => nu (.inl z), rfl, ea, dv⟩)⟩
  · rename_i s hs
    cases e
    obtain ⟨a, xs, ev, ea, dv⟩ := R.slot i _ hs
    exact ⟨_, ev, q _ H R (.refl _ _) (.inr ⟨a, xs, s, rfl, fun z => (R.pt a z).2.1 ⟨i, _, hs, rfl, ev⟩, rfl, ea, dv⟩)⟩
  · cases e
/-! ### operations by values -/
abbrev F2 := D → D → Option D
structure OF (K : PySem.W.Frag) (r : R2) (F : F2) : Prop where
  go : ∀ (fr : Fm) (H : Hp) (S : Addr → Prop), (∀ a, S a → H a ≠ none) → ∀ x y dx dy, Db K fr H S x dx → Db K fr H S y dy → ∀ d, F dx dy = some d →
    ∀ Q : VK, (∀ v H', Kp H H' → Dv K H' S v d → Q v H') → r x y H Q
structure ON (K : PySem.W.Frag) (r : R2) (F : F2) : Prop where
  go : ∀ (fr : Fm) (H : Hp) (S : Addr → Prop), (∀ a, S a → H a ≠ none) → ∀ x y dx dy, Db K fr H S x dx → Db K fr H S y dy → ∀ d, F dx dy = some d →
    ∀ Q : VK, (∀ v H', Kp H H' → Dn K H H' S v d → Q v H') → r x y H Q
theorem ON.of {r : R2} {F : F2} (h : ON K r F) : OF K r F := ⟨fun fr H S al x y dx dy hx hy d e Q q => h.go fr H S al x y dx dy hx hy d e Q fun v H' k n => q v H' k n.dv⟩
@[simp] def xOp (F : F2) (a b : Ex) : Ex := fun ρ π => (a ρ π).bind fun x => (b ρ x.2).bind fun y => (F x.1 y.1).map fun d => (d, y.2)
theorem xOp_some {F : F2} {a b : Ex} {ρ : En} {π : Pot} {d : D} {π' : Pot} (h : xOp F a b ρ π = some (d, π')) : ∃ dx π1 dy, a ρ π = some (dx, π1) ∧ b ρ π1 = some (dy, π') ∧ F dx dy = some d := by
  unfold xOp at h
  cases ea : a ρ π with
  | none => rw [ea] at h; cases h
  | some x =>
    rw [ea] at h
    simp only [Option.bind_some] at h
    cases eb : b ρ x.2 with
    | none => rw [eb] at h; cases h
    | some y =>
      rw [eb] at h
      simp only [Option.bind_some] at h
      cases ed : F x.1 y.1 with
      | none => rw [ed] at h; cases h
      | some z =>
        rw [ed] at h
        cases h
        exact ⟨x.1, x.2, y.1, rfl, eb, ed⟩
theorem Rel.sA {fr : Fm} {σ : L2.St} {H : Hp} {ρ : En} {π : Pot} (r : Rel K fr σ H ρ π) : ∀ a, (wd fr σ ρ H).S a → H a ≠ none := fun a h => r.sSome h
theorem Rel.back {fr : Fm} {σ : L2.St} {H H' : Hp} {ρ : En} {π : Pot} (r : Rel K fr σ H' ρ π) (c : ChgP fr H H') {p : Addr} (h : H' p = none) : H p = none := by
  cases e : H p with
  | none => rfl
  | some o =>
    by_cases z : fr.pt = some p
    · rw [(r.pt p z).2.2] at h; cases h
    · rw [c p o z e] at h; cases h
theorem ef_op {r : R2} {F : F2} {ta tb : TE} {fa fb : Ex} (hF : OF K r F) (ha : BF K ta fa) (hb : BF K tb fb) : EF K (tOp r ta tb) (xOp F fa fb) := by
  refine ⟨fun fr σ H ρ π R d π' e Q q => ?_⟩
  obtain ⟨dx, π1, dy, ea, eb, ed⟩ := xOp_some e
  refine ha.go fr σ H ρ π R dx π1 ea _ fun x H1 R1 c1 bx => ?_
  refine hb.go fr σ H1 ρ π1 R1 dy π' eb _ fun y H2 R2 c2 hy => ?_
  exact hF.go fr H2 _ R2.sA x y dx dy (bx.chg R1 c2) hy d ed Q fun v H3 k3 dv => q v H3 (R2.kp k3) (c1.trans (c2.trans (.of k3))) dv
theorem nf_op {r : R2} {F : F2} {ta tb : TE} {fa fb : Ex} (hF : ON K r F) (ha : BF K ta fa) (hb : BF K tb fb) : NF K (tOp r ta tb) (xOp F fa fb) := by
  refine ⟨fun fr σ H ρ π R d π' e Q q => ?_⟩
  obtain ⟨dx, π1, dy, ea, eb, ed⟩ := xOp_some e
  refine ha.go fr σ H ρ π R dx π1 ea _ fun x H1 R1 c1 bx => ?_
  refine hb.go fr σ H1 ρ π1 R1 dy π' eb _ fun y H2 R2 c2 hy => ?_
  refine hF.go fr H2 _ R2.sA x y dx dy (bx.chg R1 c2) hy d ed Q fun v H3 k3 dv => q v H3 (R2.kp k3) (c1.trans (c2.trans (.of k3))) ?_
  obtain ⟨p, xs, ds, e1, e2, h0, z⟩ := dv
  exact ⟨p, xs, ds, e1, e2, R1.back c1 (R2.back c2 h0), z⟩
@[simp] def xUn (F : D → Option D) (a : Ex) : Ex := fun ρ π => (a ρ π).bind fun x => (F x.1).map fun d => (d, x.2)
theorem xUn_some {F : D → Option D} {a : Ex} {ρ : En} {π : Pot} {d : D} {π' : Pot} (h : xUn F a ρ π = some (d, π')) : ∃ dx, a ρ π = some (dx, π') ∧ F dx = some d := by
  unfold xUn at h
  cases ea : a ρ π with
  | none => rw [ea] at h; cases h
  | some x =>
    rw [ea] at h
    simp only [Option.bind_some] at h
    cases ed : F x.1 with
    | none => rw [ed] at h; cases h
    | some z => rw [ed] at h; cases h; exact ⟨x.1, rfl, ed⟩
@[simp] def negF : D → Option D
  | .int i => some (.int (-i))
  | _ => none
theorem ef_neg {ta : TE} {fa : Ex} (ha : BF K ta fa) : EF K (tUn (rU fun i => .int (-i)) ta) (xUn negF fa) := by
  refine ⟨fun fr σ H ρ π R d π' e Q q => ?_⟩
  obtain ⟨dx, ea, ed⟩ := xUn_some e
  refine ha.go fr σ H ρ π R dx π' ea _ fun x H1 R1 c1 bx => ?_
  unfold negF at ed
  split at ed
  · cases ed
    obtain rfl := bx.int
    exact ⟨_, rfl, q _ H1 R1 c1 (.int _)⟩
  · cases ed
/-! #### numbers -/
@[simp] def isI : D → Option Int
  | .int i => some i
  | _ => none
theorem isI_some {d : D} {i : Int} (h : isI d = some i) : d = .int i := by unfold isI at h; split at h <;> cases h; rfl
@[simp] def intF (C : Int → Int → Bool) (g : Int → Int → D) : F2 := fun x y => match x, y with
  | .int i, .int j => if C i j = true then some (g i j) else none
  | _, _ => none
theorem intF_some {C : Int → Int → Bool} {g : Int → Int → D} {x y d : D} (h : intF C g x y = some d) : ∃ i j, x = .int i ∧ y = .int j ∧ C i j = true ∧ d = g i j := by
  unfold intF at h
  split at h
  · split at h
    · rename_i i j c
      cases h
      exact ⟨i, j, rfl, rfl, c, rfl⟩
    · cases h
  · cases h
theorem of_int {CC : Int → Int → Prop} {C : Int → Int → Bool} {g : Int → Int → Int} {g' : Int → Int → V} (h : ∀ i j, C i j = true → CC i j) (hg : ∀ i j, C i j = true → g' i j = .int (g i j)) : OF K (rI CC g') (intF C fun i j => .int (g i j)) :=
  ⟨fun fr H S al x y dx dy hx hy d e Q q => by
    obtain ⟨i, j, rfl, rfl, c, rfl⟩ := intF_some e
    obtain rfl := hx.int
    obtain rfl := hy.int
    exact ⟨i, j, rfl, rfl, h i j c, by rw [hg i j c]; exact q _ H (Kp.refl _) (.int _)⟩⟩
@[simp] def fTrue : Int → Int → Bool := fun _ _ => true
@[simp] def subF : F2 := intF fTrue fun i j => .int (i - j)
theorem of_sub : OF K (rI0 fun i j => .int (i - j)) subF := ⟨fun fr H S al x y dx dy hx hy d e Q q => by
    obtain ⟨i, j, rfl, rfl, c, rfl⟩ := intF_some e
    obtain rfl := hx.int
    obtain rfl := hy.int
    exact ⟨i, j, rfl, rfl, q _ H (Kp.refl _) (.int _)⟩⟩
@[simp] def cmpF (p : Int → Int → Bool) : F2 := intF fTrue fun i j => .bool (p i j)
theorem of_cmp {p : Int → Int → Bool} : OF K (rI0 fun i j => .bl (p i j)) (cmpF p) := ⟨fun fr H S al x y dx dy hx hy d e Q q => by
    obtain ⟨i, j, rfl, rfl, c, rfl⟩ := intF_some e
    obtain rfl := hx.int
    obtain rfl := hy.int
    exact ⟨i, j, rfl, rfl, q _ H (Kp.refl _) (.bl _)⟩⟩
end FL

noncomputable section
namespace FL
open PySem PySem.Spec PyProof.Rows L2 EP
variable {K : PySem.W.Frag}
/-! ### more operations -/
theorem dvA_nil {H : Hp} {S : Addr → Prop} {xs : List V} {ds : List D} (h : DvA K H S xs ds) : xs = [] ↔ ds = [] := by cases h <;> simp
theorem upN {H : Hp} {p : Addr} {o : HO} (h : H p = none) : Kp H (upd H p o) := Kp.new h
theorem dnNew {H : Hp} {S : Addr → Prop} {p : Addr} {xs : List V} {ds : List D} (al : ∀ a, S a → H a ≠ none) (h : H p = none) (r : DvA K H S xs ds) : Dn K H (upd H p (.lst xs)) S (.ref p) (.list ds) := by
  refine ⟨p, xs, ds, rfl, rfl, h, upd_same, fun z => al p z h, r.up (upN h) fun a z => ?_⟩
  rcases z with z | z
  · exact .inl z
  · exact .inr (by rw [z]; exact h)
theorem dvTup {H : Hp} {S : Addr → Prop} {p : Addr} {o : Obj} {xs : List V} {ds : List D} (al : ∀ a, S a → H a ≠ none) (h : H p = none) (ty : TpO o) (r : DvA K H S xs ds) : Dv K (upd H p (.frz o (.tup xs))) S (.ref p) (.tuple ds) :=
  .tup (.inl ⟨o, ty, upd_same, fun z => al p z h⟩) (r.up (upN h) fun a z => .inl z)
def catF : F2 := fun x y => match x, y with
  | .list a, .list b => if a.length + b.length ≤ 100000 then some (.list (a ++ b)) else none
  | _, _ => none
theorem on_cat : ON K rCat catF := ⟨fun fr H S al x y dx dy hx hy d e Q q => by
  unfold catF at e
  split at e
  · rename_i a b
    split at e
    · rename_i c
      cases e
      obtain ⟨p, xs, rfl, ep, rp⟩ := hx.list
      obtain ⟨r, ys, rfl, er, rr⟩ := hy.list
      refine ⟨p, r, xs, ys, rfl, rfl, ep, er, ?_, fun l hl => q _ _ (upN hl) (dnNew al hl (rp.append rr))⟩
      rw [rp.length, rr.length]
      exact szOk c
    · cases e
  · cases e⟩
@[simp] def addF : F2 := fun x y => match x, y with
  | .int i, .int j => some (.int (i + j))
  | .list a, .list b => if a.length + b.length ≤ 100000 then some (.list (a ++ b)) else none
  | .tuple a, .tuple b => if a.length + b.length ≤ 100000 then some (.tuple (a ++ b)) else none
  | .str a, .str b => if a.length + b.length ≤ 100000 then some (.str (a ++ b)) else none
  | _, _ => none
def rStrCat : R2 := fun x y H Q => ∃ i j, x = .str i ∧ y = .str j ∧ i.length + j.length ≤ sizeLine ∧ Q (.str (i ++ j)) H
def rAddA (K : PySem.W.Frag) : R2 := fun x y H Q => (rI0 fun i j => .int (i + j)) x y H Q ∨ rCat x y H Q ∨ rCatF K x y H Q ∨ rStrCat x y H Q
theorem op_addA {X : Cx} : OpR X (binaryOp .Add) (rAddA X.K) := op_add.or (op_cat.or (op_catF.or op_add_str))
theorem of_addA : OF K (rAddA K) addF := ⟨fun fr H S al x y dx dy hx hy d e Q q => by
  unfold addF at e
  split at e
  · cases e
    obtain rfl := hx.int
    obtain rfl := hy.int
    exact .inl ⟨_, _, rfl, rfl, q _ H (Kp.refl _) (.int _)⟩
  · rename_i a b
    exact .inr (.inl (on_cat.of.go fr H S al x y _ _ hx hy d (by unfold catF; exact e) Q q))
  · rename_i a b
    split at e
    · rename_i c
      cases e
      obtain ⟨p, xs, rfl, ep, rp⟩ := hx.tuple
      obtain ⟨r, ys, rfl, er, rr⟩ := hy.tuple
      refine .inr (.inr (.inl ⟨p, r, xs, ys, rfl, rfl, ep.sq, er.sq, ?_, fun z => ?_, fun z => ?_, fun l o hl ty => q _ _ (upN hl) (dvTup al hl ty (rp.append rr))⟩))
      · rw [rp.length, rr.length]; exact szOk c
      · have := (dvA_nil rp).mp z
        subst this
        exact q _ H (Kp.refl _) (.tup er rr)
      · have := (dvA_nil rr).mp z
        subst this
        rw [List.append_nil] at q
        exact q _ H (Kp.refl _) (.tup ep rp)
    · cases e
  · split at e
    · rename_i c
      cases e
      obtain rfl := hx.str
      obtain rfl := hy.str
      exact .inr (.inr (.inr ⟨_, _, rfl, rfl, szOk c, q _ H (Kp.refl _) (.str _)⟩))
    · cases e
  · cases e⟩
theorem on_addA : ON K (rAddA K) catF := ⟨fun fr H S al x y dx dy hx hy d e Q q => .inr (.inl (on_cat.go fr H S al x y dx dy hx hy d e Q q))⟩
def mulOk (i j : Int) : Bool := cdec (i.natAbs.log2 + j.natAbs.log2 < 1000000)
theorem mulOk_of {i j : Int} {a b : Nat} (ha : i.natAbs < 2 ^ a) (hb : j.natAbs < 2 ^ b) (h0 : 0 < a := by decide) (h1 : 0 < b := by decide) (h : a + b ≤ 1000000 := by decide) : mulOk i j = true := by
  have z : i.natAbs.log2 + j.natAbs.log2 < 1000000 := wide_mul ha hb h0 h1 h
  exact cdec_of z
def repF : F2 := fun x y => match x, y with
  | .list a, .int k => if k ≤ 100000 ∧ -100000 ≤ k ∧ a.length * k.toNat ≤ 100000 then some (.list (List.replicate k.toNat a).flatten) else none
  | _, _ => none
theorem dvA_rep {H : Hp} {S : Addr → Prop} {xs : List V} {ds : List D} (r : DvA K H S xs ds) : ∀ n, DvA K H S (List.replicate n xs).flatten (List.replicate n ds).flatten
  | 0 => .nil
  | n + 1 => by
    rw [List.replicate_succ, List.replicate_succ, List.flatten_cons, List.flatten_cons]
    exact r.append (dvA_rep r n)
theorem on_rep : ON K rRep repF := ⟨fun fr H S al x y dx dy hx hy d e Q q => by
  unfold repF at e
  split at e
  · rename_i a k
    split at e
    · rename_i c
      cases e
      obtain ⟨p, xs, rfl, ep, rp⟩ := hx.list
      obtain rfl := hy.int
      refine ⟨p, k, xs, rfl, rfl, ep, by omega, by omega, ?_, fun l hl => q _ _ (upN hl) (dnNew al hl (dvA_rep rp _))⟩
      rw [rp.length]; exact szOk c.2.2
    · cases e
  · cases e⟩
def mulF : F2 := fun x y => match x, y with
  | .int i, .int j => if mulOk i j = true then some (.int (i * j)) else none
  | .list a, .int k => if k ≤ 100000 ∧ -100000 ≤ k ∧ a.length * k.toNat ≤ 100000 then some (.list (List.replicate k.toNat a).flatten) else none
  | .tuple a, .int k => if a ≠ [] ∧ 2 ≤ k ∧ k ≤ 1000 ∧ a.length ≤ 1000 then some (.tuple (List.replicate k.toNat a).flatten) else none
  | _, _ => none
def rMulA (K : PySem.W.Frag) : R2 := fun x y H Q => (rI CMulW fun i j => .int (i * j)) x y H Q ∨ rRep x y H Q ∨ rRepF K x y H Q
theorem op_mulA {X : Cx} : OpR X (binaryOp .Mult) (rMulA X.K) := op_mulW.or (op_rep.or op_repF)
theorem of_mulA : OF K (rMulA K) mulF := ⟨fun fr H S al x y dx dy hx hy d e Q q => by
  unfold mulF at e
  split at e
  · split at e
    · rename_i i j c
      cases e
      obtain rfl := hx.int
      obtain rfl := hy.int
      have c2 : i.natAbs.log2 + j.natAbs.log2 < 1000000 := of_cdec c
      exact .inl ⟨_, _, rfl, rfl, c2, q _ H (Kp.refl _) (.int _)⟩
    · cases e
  · exact .inr (.inl (on_rep.of.go fr H S al x y _ _ hx hy d (by unfold repF; exact e) Q q))
  · split at e
    · rename_i c
      cases e
      obtain ⟨p, xs, rfl, ep, rp⟩ := hx.tuple
      obtain rfl := hy.int
      refine .inr (.inr ⟨p, _, xs, rfl, rfl, ep.sq, fun z => c.1 ((dvA_nil rp).mp z), c.2.1, c.2.2.1, by rw [rp.length]; exact c.2.2.2, fun l o hl ty => q _ _ (upN hl) (dvTup al hl ty (dvA_rep rp _))⟩)
    · cases e
  · cases e⟩
theorem on_mulA : ON K (rMulA K) repF := ⟨fun fr H S al x y dx dy hx hy d e Q q => .inr (.inl (on_rep.go fr H S al x y dx dy hx hy d e Q q))⟩
/-- a divisor: not 0, of fewer than 7,990 bits -/
def divOk (_ j : Int) : Bool := cdec (j ≠ 0 ∧ j.natAbs.log2 < 7990)
@[simp] def qInt (i j : Int) : Int := if 0 < j then i / j else i.fdiv j
@[simp] def rInt (i j : Int) : Int := if 0 < j then i % j else i.fmod j
theorem divOk_of {i j : Int} (h : j ≠ 0) (b : j.natAbs < 2 ^ 64) : divOk i j = true := by
  unfold divOk
  refine cdec_of ⟨h, ?_⟩
  have := log2Lt (show 0 < 64 by decide) b
  omega
@[simp] def fdivF : F2 := intF divOk fun i j => .int (qInt i j)
@[simp] def modF : F2 := intF divOk fun i j => .int (rInt i j)
theorem of_fdiv : OF K (rI CDivX fun i j => .int (i.fdiv j)) fdivF := of_int (fun i j h => by
    unfold divOk at h
    have h := of_cdec h
    refine ⟨h.1, ?_⟩
    have h2 : j.natAbs.log2 < 7990 := h.2
    have h3 : j.natAbs ≠ 0 := by have := h.1; omega
    have := (Nat.log2_lt h3).mp (show j.natAbs.log2 < 8000 by omega)
    exact this) (fun i j h => by
    unfold qInt
    split
    · rw [Int.fdiv_eq_ediv_of_nonneg i (by omega)]
    · rfl)
theorem of_mod : OF K (rI (fun _ j => j ≠ 0) fun i j => .int (i.fmod j)) modF := of_int (fun i j h => by
    unfold divOk at h
    exact (of_cdec h).1) (fun i j h => by
    unfold rInt
    split
    · rw [Int.fmod_eq_emod_of_nonneg i (by omega)]
    · rfl)
def powOk (i j : Int) : Bool := cdec (0 ≤ j ∧ (Builtin.Int.intBits i : Int) * j ≤ 134217728)
def powF : F2 := intF powOk fun i j => .int (i ^ j.toNat)
theorem of_pow : OF K (rI CPowX fun i j => .int (i ^ j.toNat)) powF := of_int (fun i j h => by
    exact of_cdec h) (fun i j h => rfl)
/-! #### equality -/
def rEqA (K : PySem.W.Frag) : R2 := fun x y H Q => rEqD K x y H Q ∨ rEq x y H Q
def rNeA (K : PySem.W.Frag) : R2 := fun x y H Q => rNeD K x y H Q ∨ rNe x y H Q
theorem op_eqA {X : Cx} (hu : X.A.units + 64 < cLine) : OpR X (compareOp .Eq) (rEqA X.K) := (op_eqD hu).or op_eq
theorem op_neA {X : Cx} (hu : X.A.units + 64 < cLine) : OpR X (compareOp .NotEq) (rNeA X.K) := (op_neD hu).or op_ne
def eqF (neg : Bool) : F2 := fun x y => match x, y with
  | .str a, .str b => some (.bool (if neg then !decide (a = b) else decide (a = b)))
  | x, y => if SeqAt.shaped x = true ∧ SeqAt.shaped y = true then some (.bool (if neg then !PyData.eqv x y else PyData.eqv x y)) else none
theorem strV {a b : Str} : decide (V.str a = V.str b) = decide (a = b) := by
  by_cases h : a = b
  · subst h; simp
  · rw [decide_eq_false h]; exact decide_eq_false fun z => h (by cases z; rfl)
theorem of_eq : OF K (rEqA K) (eqF false) := ⟨fun fr H S al x y dx dy hx hy d e Q q => by
  unfold eqF at e
  split at e
  · cases e
    obtain rfl := hx.str
    obtain rfl := hy.str
    refine .inr ⟨rfl, ?_⟩
    rw [strV]
    exact q _ H (Kp.refl _) (.bl _)
  · split at e
    · rename_i c
      cases e
      exact .inl ⟨_, _, hx.dp (shaped_lay c.1), hy.dp (shaped_lay c.2), c.1, c.2, q _ H (Kp.refl _) (.bl _)⟩
    · cases e⟩
theorem of_ne : OF K (rNeA K) (eqF true) := ⟨fun fr H S al x y dx dy hx hy d e Q q => by
  unfold eqF at e
  split at e
  · cases e
    obtain rfl := hx.str
    obtain rfl := hy.str
    refine .inr ⟨rfl, ?_⟩
    rw [strV]
    exact q _ H (Kp.refl _) (.bl _)
  · split at e
    · rename_i c
      cases e
      exact .inl ⟨_, _, hx.dp (shaped_lay c.1), hy.dp (shaped_lay c.2), c.1, c.2, q _ H (Kp.refl _) (.bl _)⟩
    · cases e⟩
@[simp] def isNoneD : D → Bool
  | .none => true
  | _ => false
@[simp] def isNF (neg : Bool) : F2 := fun x y => match y with
  | .none => some (.bool (if neg then !isNoneD x else isNoneD x))
  | _ => none
theorem Db.isNon {fr : Fm} {H : Hp} {S : Addr → Prop} {v : V} {d : D} (h : Db K fr H S v d) : decide (v = .non) = isNoneD d := by
  rcases h with h | ⟨a, xs, ds, rfl, _, rfl, q, z⟩
  · cases h <;> first | rfl | exact decide_eq_false (fun z => by cases z)
  · exact decide_eq_false (fun z => by cases z)
theorem of_isN : OF K (fun x y H Q => y = .non ∧ Q (.bl (decide (x = .non))) H) (isNF false) := ⟨fun fr H S al x y dx dy hx hy d e Q q => by
  unfold isNF at e
  split at e
  · cases e
    refine ⟨hy.non, ?_⟩
    rw [hx.isNon]
    exact q _ H (Kp.refl _) (.bl _)
  · cases e⟩
theorem of_notN : OF K (fun x y H Q => y = .non ∧ Q (.bl (!decide (x = .non))) H) (isNF true) := ⟨fun fr H S al x y dx dy hx hy d e Q q => by
  unfold isNF at e
  split at e
  · cases e
    refine ⟨hy.non, ?_⟩
    rw [hx.isNon]
    exact q _ H (Kp.refl _) (.bl _)
  · cases e⟩
/-! #### x in xs -/
def flatD : D → Bool
  | .none => true
  | .bool _ => true
  | .int _ => true
  | .str _ => true
  | _ => false
theorem Db.flatEq {fr : Fm} {H : Hp} {S : Addr → Prop} {v : V} {d : D} (h : Db K fr H S v d) (f : flatD d = true) : flatV v = true ∧ ∀ w e, Dv K H S w e → flatD e = true → eqV w v = PyData.eqv e d := by
  cases d with
  | none => obtain rfl := h.non; refine ⟨rfl, fun w e hw he => ?_⟩; cases hw <;> first | (simp [eqV, PyData.eqv]) | cases he
  | bool b => obtain rfl := h.bool; refine ⟨rfl, fun w e hw he => ?_⟩; cases hw <;> first | (simp [eqV, PyData.eqv]) | cases he
  | int b => obtain rfl := h.int; refine ⟨rfl, fun w e hw he => ?_⟩; cases hw <;> first | (simp [eqV, PyData.eqv]) | cases he
  | str b => obtain rfl := h.str; refine ⟨rfl, fun w e hw he => ?_⟩; cases hw <;> first | (simp [eqV, PyData.eqv]) | cases he
  | list _ => cases f
  | tuple _ => cases f
  | dict _ => cases f
end FL

noncomputable section
namespace FL
open PySem PySem.Spec PyProof.Rows L2 EP
variable {K : PySem.W.Frag}
/-! ### a place of a list, tuple, text; parts -/
@[simp] def ixF : F2 := fun x y => match x, y with
  | .list ds, .int i => atI ds i
  | .tuple ds, .int i => atI ds i
  | .str z, .int i => if z.length ≤ 100000 then (atI z.cps.toList i).map fun c => .str ⟨#[c]⟩ else none
  | _, _ => none
theorem atI_dv {H : Hp} {S : Addr → Prop} {xs : List V} {ds : List D} {i : Int} {d : D} (r : DvA K H S xs ds) (h : atI ds i = some d) : ∃ v, atI xs i = some v ∧ Dv K H S v d := by
  unfold atI at h ⊢
  rw [r.length]
  cases e : ixN ds.length i with
  | none => rw [e] at h; cases h
  | some j =>
    rw [e] at h
    exact r.get h
theorem of_ix : OF K (rIx K) ixF := ⟨fun fr H S al x y dx dy hx hy d e Q q => by
  unfold ixF at e
  split at e
  · obtain rfl := hy.int
    obtain ⟨p, xs, rfl, ep, rp⟩ := hx.list
    obtain ⟨v, ev, dv⟩ := atI_dv rp e
    exact .inl ⟨p, xs, _, v, rfl, rfl, sqL ep, ev, q v H (Kp.refl _) dv⟩
  · obtain rfl := hy.int
    obtain ⟨p, xs, rfl, ep, rp⟩ := hx.tuple
    obtain ⟨v, ev, dv⟩ := atI_dv rp e
    exact .inr (.inl ⟨p, xs, _, v, rfl, rfl, ep.sq, ev, q v H (Kp.refl _) dv⟩)
  · obtain rfl := hy.int
    obtain rfl := hx.str
    split at e
    · rename_i z i c
      cases eq : atI z.cps.toList i with
      | none => rw [eq] at e; cases e
      | some w =>
        rw [eq] at e
        cases e
        exact .inr (.inr ⟨z, i, w, rfl, rfl, szOk c, eq, q _ H (Kp.refl _) (.str _)⟩)
    · cases e
  · cases e⟩
abbrev PxF := En → Pot → Option (Option Int × Pot)
structure PF (K : PySem.W.Frag) (t : TO) (f : PxF) : Prop where
  go : ∀ (fr : Fm) (σ : L2.St) (H : Hp) (ρ : En) (π : Pot), Rel K fr σ H ρ π → ∀ d π', f ρ π = some (d, π') → ∀ Q : Option Int → Hp → Prop,
    (∀ H', Rel K fr σ H' ρ π' → ChgP fr H H' → Q d H') → t σ H Q
@[simp] def xPo (f : Ex) : PxF := fun ρ π => (f ρ π).bind fun x => (isI x.1).map fun i => (some i, x.2)
@[simp] def xPn : PxF := fun _ π => some (none, π)
theorem pf_none : PF K tNoPart xPn := ⟨fun fr σ H ρ π R d π' e Q q => by cases e; exact q H R (.refl _ _)⟩
theorem pf_some {t : TE} {f : Ex} (h : BF K t f) : PF K (tPart t) (xPo f) := by
  refine ⟨fun fr σ H ρ π R d π' e Q q => ?_⟩
  unfold xPo at e
  cases ea : f ρ π with
  | none => rw [ea] at e; cases e
  | some x =>
    rw [ea] at e
    simp only [Option.bind_some] at e
    cases ei : isI x.1 with
    | none => rw [ei] at e; cases e
    | some i =>
      rw [ei] at e
      cases e
      refine h.go fr σ H ρ π R x.1 x.2 ea _ fun v H' R' c b => ?_
      rw [isI_some ei] at b
      obtain rfl := b.int
      exact ⟨i, rfl, q H' R' c⟩
@[simp] def cutD {α : Type} (xs : List α) (lo hi : Option Int) : List α := (xs.drop (HT.sIx xs.length 0 lo)).take (HT.sIx xs.length xs.length hi - HT.sIx xs.length 0 lo)
theorem DvA.cut {H : Hp} {S : Addr → Prop} {xs : List V} {ds : List D} (r : DvA K H S xs ds) (lo hi : Option Int) : DvA K H S (cutV xs lo hi) (cutD ds lo hi) := by
  unfold cutV cutD
  rw [r.length]
  exact (r.drop _).take _
abbrev SlF := D → Option Int → Option Int → Option D
structure SF3 (K : PySem.W.Frag) (r : V → Option Int → Option Int → Hp → VK → Prop) (F : SlF) : Prop where
  go : ∀ (fr : Fm) (H : Hp) (S : Addr → Prop), (∀ a, S a → H a ≠ none) → ∀ x dx lo hi, Db K fr H S x dx → ∀ d, F dx lo hi = some d →
    ∀ Q : VK, (∀ v H', Kp H H' → Dv K H' S v d → Q v H') → r x lo hi H Q
structure SN3 (K : PySem.W.Frag) (r : V → Option Int → Option Int → Hp → VK → Prop) (F : SlF) : Prop where
  go : ∀ (fr : Fm) (H : Hp) (S : Addr → Prop), (∀ a, S a → H a ≠ none) → ∀ x dx lo hi, Db K fr H S x dx → ∀ d, F dx lo hi = some d →
    ∀ Q : VK, (∀ v H', Kp H H' → Dn K H H' S v d → Q v H') → r x lo hi H Q
@[simp] def cutL : SlF := fun x lo hi => match x with
  | .list ds => some (.list (cutD ds lo hi))
  | _ => none
@[simp] def cutT : SlF := fun x lo hi => match x with
  | .tuple ds => some (.tuple (cutD ds lo hi))
  | _ => none
theorem cut_whole {α : Type} {xs : List α} {lo hi : Option Int} (h : HT.sIx xs.length 0 lo = 0 ∧ HT.sIx xs.length xs.length hi = xs.length) : cutD xs lo hi = xs := by
  unfold cutD
  rw [h.1, h.2, List.drop_zero, Nat.sub_zero, List.take_length]
theorem sn_list : SN3 K (rSlL K) cutL := ⟨fun fr H S al x dx lo hi hx d e Q q => by
  unfold cutL at e
  split at e
  · cases e
    obtain ⟨p, xs, rfl, ep, rp⟩ := hx.list
    exact ⟨p, xs, rfl, sqL ep, fun l hl => q _ _ (upN hl) (dnNew al hl (rp.cut lo hi))⟩
  · cases e⟩
theorem sf_tup : SF3 K (rSlF K) cutT := ⟨fun fr H S al x dx lo hi hx d e Q q => by
  unfold cutT at e
  split at e
  · rename_i ds
    cases e
    obtain ⟨p, xs, rfl, ep, rp⟩ := hx.tuple
    refine ⟨p, xs, rfl, ep.sq, fun c => ?_, fun l o hl ty => q _ _ (upN hl) (dvTup al hl ty (rp.cut lo hi))⟩
    rw [rp.length] at c
    rw [cut_whole c] at q
    exact q _ H (Kp.refl _) (.tup ep rp)
  · cases e⟩
theorem SN3.of {r : V → Option Int → Option Int → Hp → VK → Prop} {F : SlF} (h : SN3 K r F) : SF3 K r F := ⟨fun fr H S al x dx lo hi hx d e Q q => h.go fr H S al x dx lo hi hx d e Q fun v H' k n => q v H' k n.dv⟩
@[simp] def xSl (F : SlF) (a : Ex) (l h : PxF) : Ex := fun ρ π => (a ρ π).bind fun x => (l ρ x.2).bind fun y => (h ρ y.2).bind fun z => (F x.1 y.1 z.1).map fun d => (d, z.2)
theorem xSl_some {F : SlF} {a : Ex} {l h : PxF} {ρ : En} {π : Pot} {d : D} {π' : Pot} (e : xSl F a l h ρ π = some (d, π')) : ∃ dx π1 lo π2 hi, a ρ π = some (dx, π1) ∧ l ρ π1 = some (lo, π2) ∧ h ρ π2 = some (hi, π') ∧ F dx lo hi = some d := by
  unfold xSl at e
  cases ea : a ρ π with
  | none => rw [ea] at e; cases e
  | some x =>
    rw [ea] at e
    simp only [Option.bind_some] at e
    cases eb : l ρ x.2 with
    | none => rw [eb] at e; cases e
    | some y =>
      rw [eb] at e
      simp only [Option.bind_some] at e
      cases ec : h ρ y.2 with
      | none => rw [ec] at e; cases e
      | some z =>
        rw [ec] at e
        simp only [Option.bind_some] at e
        cases ed : F x.1 y.1 z.1 with
        | none => rw [ed] at e; cases e
        | some w => rw [ed] at e; cases e; exact ⟨x.1, x.2, y.1, y.2, z.1, rfl, eb, ec, ed⟩
theorem ef_sl {r : V → Option Int → Option Int → Hp → VK → Prop} {F : SlF} {ta : TE} {tl th : TO} {fa : Ex} {fl fh : PxF} (hF : SF3 K r F) (ha : BF K ta fa) (hl : PF K tl fl) (hh : PF K th fh) : EF K (tSl r ta tl th) (xSl F fa fl fh) := by
  refine ⟨fun fr σ H ρ π R d π' e Q q => ?_⟩
  obtain ⟨dx, π1, lo, π2, hi, ea, el, eh, ed⟩ := xSl_some e
  refine ha.go fr σ H ρ π R dx π1 ea _ fun x H1 R1 c1 bx => ?_
  refine hl.go fr σ H1 ρ π1 R1 lo π2 el _ fun H2 R2 c2 => ?_
  refine hh.go fr σ H2 ρ π2 R2 hi π' eh _ fun H3 R3 c3 => ?_
  exact hF.go fr H3 _ R3.sA x dx lo hi ((bx.chg R1 c2).chg R2 c3) d ed Q fun v H4 k4 dv => q v H4 (R3.kp k4) (c1.trans (c2.trans (c3.trans (.of k4)))) dv
theorem Dn.back {H0 H1 H : Hp} {S : Addr → Prop} {v : V} {d : D} (b : ∀ p, H1 p = none → H0 p = none) (h : Dn K H1 H S v d) : Dn K H0 H S v d := by
  obtain ⟨p, xs, ds, e1, e2, h0, z⟩ := h
  exact ⟨p, xs, ds, e1, e2, b p h0, z⟩
theorem nf_sl {r : V → Option Int → Option Int → Hp → VK → Prop} {F : SlF} {ta : TE} {tl th : TO} {fa : Ex} {fl fh : PxF} (hF : SN3 K r F) (ha : BF K ta fa) (hl : PF K tl fl) (hh : PF K th fh) : NF K (tSl r ta tl th) (xSl F fa fl fh) := by
  refine ⟨fun fr σ H ρ π R d π' e Q q => ?_⟩
  obtain ⟨dx, π1, lo, π2, hi, ea, el, eh, ed⟩ := xSl_some e
  refine ha.go fr σ H ρ π R dx π1 ea _ fun x H1 R1 c1 bx => ?_
  refine hl.go fr σ H1 ρ π1 R1 lo π2 el _ fun H2 R2 c2 => ?_
  refine hh.go fr σ H2 ρ π2 R2 hi π' eh _ fun H3 R3 c3 => ?_
  exact hF.go fr H3 _ R3.sA x dx lo hi ((bx.chg R1 c2).chg R2 c3) d ed Q fun v H4 k4 dv => q v H4 (R3.kp k4) (c1.trans (c2.trans (c3.trans (.of k4)))) (dv.back fun p h => R1.back c1 (R2.back c2 (R3.back c3 h)))
/-! ### tests -/
abbrev Tx := En → Pot → Option (Bool × Pot)
structure TF (K : PySem.W.Frag) (t : TT) (f : Tx) : Prop where
  go : ∀ (fr : Fm) (σ : L2.St) (H : Hp) (ρ : En) (π : Pot), Rel K fr σ H ρ π → ∀ b π', f ρ π = some (b, π') → ∀ Q : Bool → Hp → Prop,
    (∀ H', Rel K fr σ H' ρ π' → ChgP fr H H' → Q b H') → t σ H Q
@[simp] def isB : D → Option Bool
  | .bool b => some b
  | _ => none
theorem isB_some {d : D} {i : Bool} (h : isB d = some i) : d = .bool i := by unfold isB at h; split at h <;> cases h; rfl
@[simp] def xT (f : Ex) : Tx := fun ρ π => (f ρ π).bind fun x => (isB x.1).map fun b => (b, x.2)
theorem tf_test {t : TE} {f : Ex} (h : BF K t f) : TF K (tTest t) (xT f) := by
  refine ⟨fun fr σ H ρ π R d π' e Q q => ?_⟩
  unfold xT at e
  cases ea : f ρ π with
  | none => rw [ea] at e; cases e
  | some x =>
    rw [ea] at e
    simp only [Option.bind_some] at e
    cases ei : isB x.1 with
    | none => rw [ei] at e; cases e
    | some i =>
      rw [ei] at e
      cases e
      refine h.go fr σ H ρ π R x.1 x.2 ea _ fun v H' R' c b => ?_
      rw [isB_some ei] at b
      obtain rfl := b.bool
      exact ⟨_, rfl, q H' R' c⟩
theorem tf_val {t : TE} {f : Ex} (h : BF K t f) : TF K (tB t) (xT f) := tf_test h
@[simp] def xAnd (a b : Tx) : Tx := fun ρ π => (a ρ π).bind fun x => if x.1 = true then b ρ x.2 else some (false, x.2)
@[simp] def xOr (a b : Tx) : Tx := fun ρ π => (a ρ π).bind fun x => if x.1 = true then some (true, x.2) else b ρ x.2
@[simp] def xNot (a : Tx) : Tx := fun ρ π => (a ρ π).map fun x => (!x.1, x.2)
theorem tf_and {t u : TT} {f g : Tx} (h : TF K t f) (h2 : TF K u g) : TF K (tAnd t u) (xAnd f g) := by
  refine ⟨fun fr σ H ρ π R d π' e Q q => ?_⟩
  unfold xAnd at e
  cases ea : f ρ π with
  | none => rw [ea] at e; cases e
  | some x =>
    rw [ea] at e
    simp only [Option.bind_some] at e
    refine h.go fr σ H ρ π R x.1 x.2 ea _ fun H' R' c => ?_
    by_cases z : x.1 = true
    · rw [if_pos z] at e ⊢
      exact h2.go fr σ H' ρ x.2 R' d π' e Q fun H2 R2 c2 => q H2 R2 (c.trans c2)
    · rw [if_neg z] at e ⊢
      cases e
      exact q H' R' c
theorem tf_or {t u : TT} {f g : Tx} (h : TF K t f) (h2 : TF K u g) : TF K (tOr t u) (xOr f g) := by
  refine ⟨fun fr σ H ρ π R d π' e Q q => ?_⟩
  unfold xOr at e
  cases ea : f ρ π with
  | none => rw [ea] at e; cases e
  | some x =>
    rw [ea] at e
    simp only [Option.bind_some] at e
    refine h.go fr σ H ρ π R x.1 x.2 ea _ fun H' R' c => ?_
    by_cases z : x.1 = true
    · rw [if_pos z] at e ⊢
      cases e
      exact q H' R' c
    · rw [if_neg z] at e ⊢
      exact h2.go fr σ H' ρ x.2 R' d π' e Q fun H2 R2 c2 => q H2 R2 (c.trans c2)
theorem tf_not {t : TT} {f : Tx} (h : TF K t f) : TF K (tNot t) (xNot f) := by
  refine ⟨fun fr σ H ρ π R d π' e Q q => ?_⟩
  unfold xNot at e
  cases ea : f ρ π with
  | none => rw [ea] at e; cases e
  | some x =>
    rw [ea] at e
    cases e
    exact h.go fr σ H ρ π R x.1 x.2 ea _ fun H' R' c => q H' R' c
@[simp] def xYes : Tx := fun _ π => some (true, π)
theorem tf_yes : TF K tYes xYes := ⟨fun fr σ H ρ π R d π' e Q q => by cases e; exact q H R (.refl _ _)⟩
/-- bools as values -/
@[simp] def xAndV (a b : Ex) : Ex := fun ρ π => (a ρ π).bind fun x => (isB x.1).bind fun c => if c = true then b ρ x.2 else some (.bool false, x.2)
@[simp] def xOrV (a b : Ex) : Ex := fun ρ π => (a ρ π).bind fun x => (isB x.1).bind fun c => if c = true then some (.bool true, x.2) else b ρ x.2
@[simp] def notF : D → Option D
  | .bool b => some (.bool !b)
  | _ => none
theorem ef_andV {ta tb : TE} {f g : Ex} (h : BF K ta f) (h2 : EF K tb g) : EF K (tAndV ta tb) (xAndV f g) := by
  refine ⟨fun fr σ H ρ π R d π' e Q q => ?_⟩
  unfold xAndV at e
  cases ea : f ρ π with
  | none => rw [ea] at e; cases e
  | some x =>
    rw [ea] at e
    simp only [Option.bind_some] at e
    cases ei : isB x.1 with
    | none => rw [ei] at e; cases e
    | some i =>
      rw [ei] at e
      simp only [Option.bind_some] at e
      refine h.go fr σ H ρ π R x.1 x.2 ea _ fun v H' R' c b => ?_
      rw [isB_some ei] at b
      obtain rfl := b.bool
      refine ⟨i, rfl, ?_⟩
      by_cases z : i = true
      · rw [if_pos z] at e ⊢
        exact h2.go fr σ H' ρ x.2 R' d π' e Q fun v H2 R2 c2 => q v H2 R2 (c.trans c2)
      · rw [if_neg z] at e ⊢
        cases e
        exact q _ H' R' c (.bl _)
theorem ef_orV {ta tb : TE} {f g : Ex} (h : BF K ta f) (h2 : EF K tb g) : EF K (tOrV ta tb) (xOrV f g) := by
  refine ⟨fun fr σ H ρ π R d π' e Q q => ?_⟩
  unfold xOrV at e
  cases ea : f ρ π with
  | none => rw [ea] at e; cases e
  | some x =>
    rw [ea] at e
    simp only [Option.bind_some] at e
    cases ei : isB x.1 with
    | none => rw [ei] at e; cases e
    | some i =>
      rw [ei] at e
      simp only [Option.bind_some] at e
      refine h.go fr σ H ρ π R x.1 x.2 ea _ fun v H' R' c b => ?_
      rw [isB_some ei] at b
      obtain rfl := b.bool
      refine ⟨i, rfl, ?_⟩
      by_cases z : i = true
      · rw [if_pos z] at e ⊢
        cases e
        exact q _ H' R' c (.bl _)
      · rw [if_neg z] at e ⊢
        exact h2.go fr σ H' ρ x.2 R' d π' e Q fun v H2 R2 c2 => q v H2 R2 (c.trans c2)
theorem ef_notV {ta : TE} {fa : Ex} (ha : BF K ta fa) : EF K (tNotV ta) (xUn notF fa) := by
  refine ⟨fun fr σ H ρ π R d π' e Q q => ?_⟩
  obtain ⟨dx, ea, ed⟩ := xUn_some e
  refine ha.go fr σ H ρ π R dx π' ea _ fun x H1 R1 c1 bx => ?_
  unfold notF at ed
  split at ed
  · cases ed
    obtain rfl := bx.bool
    exact ⟨_, rfl, q _ H1 R1 c1 (.bl _)⟩
  · cases ed
/-- a if t else b -/
@[simp] def xIf (c : Tx) (a b : Ex) : Ex := fun ρ π => (c ρ π).bind fun x => if x.1 = true then a ρ x.2 else b ρ x.2
theorem xIf_some {c : Tx} {a b : Ex} {ρ : En} {π : Pot} {r : D × Pot} (e : xIf c a b ρ π = some r) : ∃ k π1, c ρ π = some (k, π1) ∧ (if k = true then a ρ π1 else b ρ π1) = some r := by
  unfold xIf at e
  cases ea : c ρ π with
  | none => rw [ea] at e; cases e
  | some x => rw [ea] at e; exact ⟨x.1, x.2, rfl, e⟩
theorem ef_if {t : TT} {ta tb : TE} {c : Tx} {f g : Ex} (h : TF K t c) (h1 : EF K ta f) (h2 : EF K tb g) : EF K (tIf t ta tb) (xIf c f g) := by
  refine ⟨fun fr σ H ρ π R d π' e Q q => ?_⟩
  obtain ⟨k, π1, ek, e⟩ := xIf_some e
  refine h.go fr σ H ρ π R k π1 ek _ fun H' R' c => ?_
  by_cases z : k = true
  · rw [if_pos z] at e ⊢
    exact h1.go fr σ H' ρ π1 R' d π' e Q fun v H2 R2 c2 => q v H2 R2 (c.trans c2)
  · rw [if_neg z] at e ⊢
    exact h2.go fr σ H' ρ π1 R' d π' e Q fun v H2 R2 c2 => q v H2 R2 (c.trans c2)
theorem bf_if {t : TT} {ta tb : TE} {c : Tx} {f g : Ex} (h : TF K t c) (h1 : BF K ta f) (h2 : BF K tb g) : BF K (tIf t ta tb) (xIf c f g) := by
  refine ⟨fun fr σ H ρ π R d π' e Q q => ?_⟩
  obtain ⟨k, π1, ek, e⟩ := xIf_some e
  refine h.go fr σ H ρ π R k π1 ek _ fun H' R' c => ?_
  by_cases z : k = true
  · rw [if_pos z] at e ⊢
    exact h1.go fr σ H' ρ π1 R' d π' e Q fun v H2 R2 c2 => q v H2 R2 (c.trans c2)
  · rw [if_neg z] at e ⊢
    exact h2.go fr σ H' ρ π1 R' d π' e Q fun v H2 R2 c2 => q v H2 R2 (c.trans c2)
theorem nf_if {t : TT} {ta tb : TE} {c : Tx} {f g : Ex} (h : TF K t c) (h1 : NF K ta f) (h2 : NF K tb g) : NF K (tIf t ta tb) (xIf c f g) := by
  refine ⟨fun fr σ H ρ π R d π' e Q q => ?_⟩
  obtain ⟨k, π1, ek, e⟩ := xIf_some e
  refine h.go fr σ H ρ π R k π1 ek _ fun H' R' c => ?_
  by_cases z : k = true
  · rw [if_pos z] at e ⊢
    exact h1.go fr σ H' ρ π1 R' d π' e Q fun v H2 R2 c2 n => q v H2 R2 (c.trans c2) (n.back fun p h => R'.back c h)
  · rw [if_neg z] at e ⊢
    exact h2.go fr σ H' ρ π1 R' d π' e Q fun v H2 R2 c2 n => q v H2 R2 (c.trans c2) (n.back fun p h => R'.back c h)
/-- a op b op c -/
@[simp] def xChain (F G : F2) (a b c : Ex) : Ex := fun ρ π => (a ρ π).bind fun x => (b ρ x.2).bind fun y => (F x.1 y.1).bind fun z => (isB z).bind fun k =>
  if k = true then (c ρ y.2).bind fun w => (G y.1 w.1).map fun d => (d, w.2) else some (.bool false, y.2)
theorem ef_chain {r r' : R2} {F G : F2} {ta tb tc : TE} {fa fb fc : Ex} (hF : OF K r F) (hG : OF K r' G) (ha : BF K ta fa) (hb : BF K tb fb) (hc : BF K tc fc) : EF K (tChain r r' ta tb tc) (xChain F G fa fb fc) := by
  refine ⟨fun fr σ H ρ π R d π' e Q q => ?_⟩
  unfold xChain at e
  cases ea : fa ρ π with
  | none => rw [ea] at e; cases e
  | some x =>
    rw [ea] at e
    simp only [Option.bind_some] at e
    cases eb : fb ρ x.2 with
    | none => rw [eb] at e; cases e
    | some y =>
      rw [eb] at e
      simp only [Option.bind_some] at e
      cases ef : F x.1 y.1 with
      | none => rw [ef] at e; cases e
      | some z =>
        rw [ef] at e
        simp only [Option.bind_some] at e
        cases ek : isB z with
        | none => rw [ek] at e; cases e
        | some k =>
          rw [ek] at e
          simp only [Option.bind_some] at e
          refine ha.go fr σ H ρ π R x.1 x.2 ea _ fun vx H1 R1 c1 bx => ?_
          refine hb.go fr σ H1 ρ x.2 R1 y.1 y.2 eb _ fun vy H2 R2 c2 by_ => ?_
          refine hF.go fr H2 _ R2.sA vx vy x.1 y.1 (bx.chg R1 c2) by_ z ef _ fun vz H3 k3 dz => ?_
          rw [isB_some ek] at dz
          cases dz
          have R3 := R2.kp k3
          refine ⟨k, rfl, ?_⟩
          by_cases zz : k = true
          · rw [if_pos zz] at e ⊢
            cases ec : fc ρ y.2 with
            | none => rw [ec] at e; cases e
            | some w =>
              rw [ec] at e
              simp only [Option.bind_some] at e
              cases eg : G y.1 w.1 with
              | none => rw [eg] at e; cases e
              | some g =>
                rw [eg] at e
                cases e
                refine hc.go fr σ H3 ρ y.2 R3 w.1 w.2 ec _ fun vw H4 R4 c4 bw => ?_
                exact hG.go fr H4 _ R4.sA vy vw y.1 w.1 ((by_.chg R2 (.of k3)).chg R3 c4) bw _ eg Q fun v H5 k5 dv => q v H5 (R4.kp k5) (c1.trans (c2.trans ((ChgP.of k3).trans (c4.trans (.of k5))))) dv
          · rw [if_neg zz] at e ⊢
            cases e
            exact q _ H3 R3 (c1.trans (c2.trans (.of k3))) (.bl _)
end FL

noncomputable section
namespace FL
open PySem PySem.Spec PyProof.Rows L2 EP
variable {K : PySem.W.Frag}
/-! ### lists of expressions -/
abbrev Ax := En → Pot → Option (List D × Pot)
def DbA (K : PySem.W.Frag) (fr : Fm) (H : Hp) (S : Addr → Prop) : List V → List D → Prop
  | [], [] => True
  | v :: vs, d :: ds => Db K fr H S v d ∧ DbA K fr H S vs ds
  | _, _ => False
theorem DbA.chg {fr : Fm} {σ : L2.St} {ρ : En} {π : Pot} {H H' : Hp} (r : Rel K fr σ H ρ π) (x : ChgP fr H H') : ∀ {vs : List V} {ds : List D}, DbA K fr H (wd fr σ ρ H).S vs ds → DbA K fr H' (wd fr σ ρ H').S vs ds
  | [], [], _ => trivial
  | v :: vs, d :: ds, h => ⟨h.1.chg r x, DbA.chg r x h.2⟩
/-- each strict (may be handed on) or not -/
structure AF (K : PySem.W.Frag) (t : TA) (f : Ax) : Prop where
  go : ∀ (fr : Fm) (σ : L2.St) (H : Hp) (ρ : En) (π : Pot), Rel K fr σ H ρ π → ∀ ds π', f ρ π = some (ds, π') → ∀ Q : List V → Hp → Prop,
    (∀ vs H', Rel K fr σ H' ρ π' → ChgP fr H H' → DvA K H' (wd fr σ ρ H').S vs ds → Q vs H') → t σ H Q
structure AB (K : PySem.W.Frag) (t : TA) (f : Ax) : Prop where
  go : ∀ (fr : Fm) (σ : L2.St) (H : Hp) (ρ : En) (π : Pot), Rel K fr σ H ρ π → ∀ ds π', f ρ π = some (ds, π') → ∀ Q : List V → Hp → Prop,
    (∀ vs H', Rel K fr σ H' ρ π' → ChgP fr H H' → DbA K fr H' (wd fr σ ρ H').S vs ds → Q vs H') → t σ H Q
@[simp] def aNil : Ax := fun _ π => some ([], π)
@[simp] def aCons (a : Ex) (r : Ax) : Ax := fun ρ π => (a ρ π).bind fun x => (r ρ x.2).map fun y => (x.1 :: y.1, y.2)
theorem aCons_some {a : Ex} {r : Ax} {ρ : En} {π : Pot} {ds : List D} {π' : Pot} (e : aCons a r ρ π = some (ds, π')) : ∃ d π1 es, a ρ π = some (d, π1) ∧ r ρ π1 = some (es, π') ∧ ds = d :: es := by
  unfold aCons at e
  cases ea : a ρ π with
  | none => rw [ea] at e; cases e
  | some x =>
    rw [ea] at e
    simp only [Option.bind_some] at e
    cases eb : r ρ x.2 with
    | none => rw [eb] at e; cases e
    | some y => rw [eb] at e; cases e; exact ⟨x.1, x.2, y.1, rfl, eb, rfl⟩
theorem af_nil : AF K tNil aNil := ⟨fun fr σ H ρ π R d π' e Q q => by cases e; exact q _ H R (.refl _ _) .nil⟩
theorem ab_nil : AB K tNil aNil := ⟨fun fr σ H ρ π R d π' e Q q => by cases e; exact q _ H R (.refl _ _) trivial⟩
theorem af_cons {ta : TE} {tr : TA} {a : Ex} {r : Ax} (h : EF K ta a) (h2 : AF K tr r) : AF K (tCons ta tr) (aCons a r) := by
  refine ⟨fun fr σ H ρ π R ds π' e Q q => ?_⟩
  obtain ⟨d, π1, es, ea, er, rfl⟩ := aCons_some e
  refine h.go fr σ H ρ π R d π1 ea _ fun v H1 R1 c1 dv => ?_
  exact h2.go fr σ H1 ρ π1 R1 es π' er _ fun vs H2 R2 c2 rv => q _ H2 R2 (c1.trans c2) (.cons (dv.step R1.us (c2.step σ ρ)) rv)
theorem ab_cons {ta : TE} {tr : TA} {a : Ex} {r : Ax} (h : BF K ta a) (h2 : AB K tr r) : AB K (tCons ta tr) (aCons a r) := by
  refine ⟨fun fr σ H ρ π R ds π' e Q q => ?_⟩
  obtain ⟨d, π1, es, ea, er, rfl⟩ := aCons_some e
  refine h.go fr σ H ρ π R d π1 ea _ fun v H1 R1 c1 dv => ?_
  exact h2.go fr σ H1 ρ π1 R1 es π' er _ fun vs H2 R2 c2 rv => q _ H2 R2 (c1.trans c2) ⟨dv.chg R1 c2, rv⟩
theorem DvA.dbA {fr : Fm} {H : Hp} {S : Addr → Prop} : ∀ {vs : List V} {ds : List D}, DvA K H S vs ds → DbA K fr H S vs ds
  | _, _, .nil => trivial
  | _, _, .cons a r => ⟨.inl a, r.dbA⟩
theorem AF.ab {t : TA} {f : Ax} (h : AF K t f) : AB K t f := ⟨fun fr σ H ρ π R d π' e Q q => h.go fr σ H ρ π R d π' e Q fun v H' r' c n => q v H' r' c n.dbA⟩
/-! ### displays -/
@[simp] def xTup (a : Ax) : Ex := fun ρ π => (a ρ π).bind fun x => if x.1.length ≤ 100000 then some (.tuple x.1, x.2) else none
@[simp] def xLst (a : Ax) : Ex := fun ρ π => (a ρ π).bind fun x => if x.1.length ≤ 100000 then some (.list x.1, x.2) else none
theorem xTup_some {a : Ax} {ρ : En} {π : Pot} {d : D} {π' : Pot} (e : xTup a ρ π = some (d, π')) : ∃ ds, a ρ π = some (ds, π') ∧ ds.length ≤ 100000 ∧ d = .tuple ds := by
  unfold xTup at e
  cases ea : a ρ π with
  | none => rw [ea] at e; cases e
  | some x =>
    rw [ea] at e
    simp only [Option.bind_some] at e
    split at e
    · cases e; exact ⟨x.1, rfl, by assumption, rfl⟩
    · cases e
theorem xLst_some {a : Ax} {ρ : En} {π : Pot} {d : D} {π' : Pot} (e : xLst a ρ π = some (d, π')) : ∃ ds, a ρ π = some (ds, π') ∧ ds.length ≤ 100000 ∧ d = .list ds := by
  unfold xLst at e
  cases ea : a ρ π with
  | none => rw [ea] at e; cases e
  | some x =>
    rw [ea] at e
    simp only [Option.bind_some] at e
    split at e
    · cases e; exact ⟨x.1, rfl, by assumption, rfl⟩
    · cases e
theorem ef_tup {t : TA} {a : Ax} (h : AF K t a) : EF K (tTupF t) (xTup a) := by
  refine ⟨fun fr σ H ρ π R d π' e Q q => ?_⟩
  obtain ⟨ds, ea, l, rfl⟩ := xTup_some e
  refine h.go fr σ H ρ π R ds π' ea _ fun vs H' R' c dv => ⟨by rw [dv.length]; exact szOk l, fun p o hp ty => ?_⟩
  exact q _ _ (R'.kp (upN hp)) (c.trans (.of (upN hp))) (dvTup R'.sA hp ty dv)
theorem nf_lst {t : TA} {a : Ax} (h : AF K t a) : NF K (tLst t) (xLst a) := by
  refine ⟨fun fr σ H ρ π R d π' e Q q => ?_⟩
  obtain ⟨ds, ea, l, rfl⟩ := xLst_some e
  refine h.go fr σ H ρ π R ds π' ea _ fun vs H' R' c dv => ⟨by rw [dv.length]; exact szOk l, fun p hp => ?_⟩
  exact q _ _ (R'.kp (upN hp)) (c.trans (.of (upN hp))) ((dnNew R'.sA hp dv).back fun p h => R'.back c h)
/-! ### built-ins -/
abbrev F1 := List D → Option D
abbrev RB := List V → Hp → VK → Prop
structure CF (K : PySem.W.Frag) (r : RB) (F : F1) : Prop where
  go : ∀ (fr : Fm) (H : Hp) (S : Addr → Prop), (∀ a, S a → H a ≠ none) → ∀ vs ds, DbA K fr H S vs ds → ∀ d, F ds = some d →
    ∀ Q : VK, (∀ v H', Kp H H' → Dv K H' S v d → Q v H') → r vs H Q
structure CN (K : PySem.W.Frag) (r : RB) (F : F1) : Prop where
  go : ∀ (fr : Fm) (H : Hp) (S : Addr → Prop), (∀ a, S a → H a ≠ none) → ∀ vs ds, DbA K fr H S vs ds → ∀ d, F ds = some d →
    ∀ Q : VK, (∀ v H', Kp H H' → Dn K H H' S v d → Q v H') → r vs H Q
theorem CN.of {r : RB} {F : F1} (h : CN K r F) : CF K r F := ⟨fun fr H S al vs ds hx d e Q q => h.go fr H S al vs ds hx d e Q fun v H' k n => q v H' k n.dv⟩
@[simp] def xCb (F : F1) (a : Ax) : Ex := fun ρ π => (a ρ π).bind fun x => (F x.1).map fun d => (d, x.2)
theorem xCb_some {F : F1} {a : Ax} {ρ : En} {π : Pot} {d : D} {π' : Pot} (e : xCb F a ρ π = some (d, π')) : ∃ ds, a ρ π = some (ds, π') ∧ F ds = some d := by
  unfold xCb at e
  cases ea : a ρ π with
  | none => rw [ea] at e; cases e
  | some x =>
    rw [ea] at e
    simp only [Option.bind_some] at e
    cases ed : F x.1 with
    | none => rw [ed] at e; cases e
    | some z => rw [ed] at e; cases e; exact ⟨x.1, rfl, ed⟩
theorem ef_cb {r : RB} {F : F1} {t : TA} {a : Ax} (hF : CF K r F) (h : AB K t a) : EF K (tCB r t) (xCb F a) := by
  refine ⟨fun fr σ H ρ π R d π' e Q q => ?_⟩
  obtain ⟨ds, ea, ed⟩ := xCb_some e
  refine h.go fr σ H ρ π R ds π' ea _ fun vs H1 R1 c1 dv => ?_
  exact hF.go fr H1 _ R1.sA vs ds dv d ed Q fun v H2 k2 dv => q v H2 (R1.kp k2) (c1.trans (.of k2)) dv
theorem nf_cb {r : RB} {F : F1} {t : TA} {a : Ax} (hF : CN K r F) (h : AB K t a) : NF K (tCB r t) (xCb F a) := by
  refine ⟨fun fr σ H ρ π R d π' e Q q => ?_⟩
  obtain ⟨ds, ea, ed⟩ := xCb_some e
  refine h.go fr σ H ρ π R ds π' ea _ fun vs H1 R1 c1 dv => ?_
  exact hF.go fr H1 _ R1.sA vs ds dv d ed Q fun v H2 k2 dv => q v H2 (R1.kp k2) (c1.trans (.of k2)) (dv.back fun p h => R1.back c1 h)
theorem dbA1 {fr : Fm} {H : Hp} {S : Addr → Prop} {vs : List V} {d : D} (h : DbA K fr H S vs [d]) : ∃ v, vs = [v] ∧ Db K fr H S v d := by
  match vs, h with
  | [v], h => exact ⟨v, rfl, h.1⟩
theorem dbA2 {fr : Fm} {H : Hp} {S : Addr → Prop} {vs : List V} {d e : D} (h : DbA K fr H S vs [d, e]) : ∃ v w, vs = [v, w] ∧ Db K fr H S v d ∧ Db K fr H S w e := by
  match vs, h with
  | [v, w], h => exact ⟨v, w, rfl, h.1, h.2.1⟩
@[simp] def lenF : F1 := fun ds => match ds with
  | [.list a] => some (.int a.length)
  | [.tuple a] => some (.int a.length)
  | [.str a] => if a.length ≤ 100000 then some (.int a.length) else none
  | _ => none
theorem cf_len : CF K (fun xs H Q => ∃ x n, xs = [x] ∧ LenV K x H n ∧ Q (.int n) H) lenF := ⟨fun fr H S al vs ds hx d e Q q => by
  unfold lenF at e
  split at e
  · cases e
    obtain ⟨v, rfl, h⟩ := dbA1 hx
    obtain ⟨p, xs, rfl, ep, rp⟩ := h.list
    exact ⟨_, _, rfl, .inl ⟨xs, sqL ep, rp.length.symm⟩, q _ H (Kp.refl _) (.int _)⟩
  · cases e
    obtain ⟨v, rfl, h⟩ := dbA1 hx
    obtain ⟨p, xs, rfl, ep, rp⟩ := h.tuple
    exact ⟨_, _, rfl, .inr ⟨xs, ep.sq, rp.length.symm⟩, q _ H (Kp.refl _) (.int _)⟩
  · split at e
    · rename_i c
      cases e
      obtain ⟨v, rfl, h⟩ := dbA1 hx
      obtain rfl := h.str
      exact ⟨_, _, rfl, ⟨szOk c, rfl⟩, q _ H (Kp.refl _) (.int _)⟩
    · cases e
  · cases e⟩
@[simp] def absF : F1 := fun ds => match ds with
  | [.int i] => some (.int (if i < 0 then -i else i))
  | _ => none
theorem cf_abs : CF K (fun xs H Q => ∃ i, xs = [.int i] ∧ Q (.int (if i < 0 then -i else i)) H) absF := ⟨fun fr H S al vs ds hx d e Q q => by
  unfold absF at e
  split at e
  · cases e
    obtain ⟨v, rfl, h⟩ := dbA1 hx
    obtain rfl := h.int
    exact ⟨_, rfl, q _ H (Kp.refl _) (.int _)⟩
  · cases e⟩
@[simp] def toIntF : F1 := fun ds => match ds with
  | [.int i] => some (.int i)
  | [.bool b] => some (.int (if b then 1 else 0))
  | _ => none
theorem cf_int : CF K (fun xs H Q => (∃ i, xs = [.int i] ∧ Q (.int i) H) ∨ ∃ k, xs = [.bl k] ∧ Q (.int (if k then 1 else 0)) H) toIntF := ⟨fun fr H S al vs ds hx d e Q q => by
  unfold toIntF at e
  split at e
  · cases e
    obtain ⟨v, rfl, h⟩ := dbA1 hx
    obtain rfl := h.int
    exact .inl ⟨_, rfl, q _ H (Kp.refl _) (.int _)⟩
  · cases e
    obtain ⟨v, rfl, h⟩ := dbA1 hx
    obtain rfl := h.bool
    exact .inr ⟨_, rfl, q _ H (Kp.refl _) (.int _)⟩
  · cases e⟩
@[simp] def max2F : F1 := fun ds => match ds with
  | [.int i, .int j] => some (.int (if j > i then j else i))
  | _ => none
@[simp] def min2F : F1 := fun ds => match ds with
  | [.int i, .int j] => some (.int (if j < i then j else i))
  | _ => none
theorem cf_max2 : CF K (fun xs H Q => ∃ i j, xs = [.int i, .int j] ∧ Q (.int (if j > i then j else i)) H) max2F := ⟨fun fr H S al vs ds hx d e Q q => by
  unfold max2F at e
  split at e
  · cases e
    obtain ⟨v, w, rfl, h, h2⟩ := dbA2 hx
    obtain rfl := h.int
    obtain rfl := h2.int
    exact ⟨_, _, rfl, q _ H (Kp.refl _) (.int _)⟩
  · cases e⟩
theorem cf_min2 : CF K (fun xs H Q => ∃ i j, xs = [.int i, .int j] ∧ Q (.int (if j < i then j else i)) H) min2F := ⟨fun fr H S al vs ds hx d e Q q => by
  unfold min2F at e
  split at e
  · cases e
    obtain ⟨v, w, rfl, h, h2⟩ := dbA2 hx
    obtain rfl := h.int
    obtain rfl := h2.int
    exact ⟨_, _, rfl, q _ H (Kp.refl _) (.int _)⟩
  · cases e⟩
@[simp] def gcdF : F1 := fun ds => match ds with
  | [.int i, .int j] => some (.int (Nat.gcd i.natAbs j.natAbs : Nat))
  | _ => none
theorem cf_gcd : CF K rGcd gcdF := ⟨fun fr H S al vs ds hx d e Q q => by
  unfold gcdF at e
  split at e
  · cases e
    obtain ⟨v, w, rfl, h, h2⟩ := dbA2 hx
    obtain rfl := h.int
    obtain rfl := h2.int
    exact ⟨_, _, rfl, q _ H (Kp.refl _) (.int _)⟩
  · cases e⟩
def divmodF : F1 := fun ds => match ds with
  | [.int i, .int j] => if 0 < j ∧ j < 1073741824 then some (.tuple [.int (i / j), .int (i % j)]) else none
  | _ => none
def strF : F1 := fun ds => match ds with
  | [.int i] => if i.natAbs.log2 < 1900 then some (.str (toString i)) else none
  | _ => none
theorem cf_str : CF K (fun xs H Q => ∃ i, xs = [.int i] ∧ i.natAbs.log2 < 1920 ∧ Q (.str (toString i)) H) strF := ⟨fun fr H S al vs ds hx d e Q q => by
  unfold strF at e
  split at e
  · split at e
    · rename_i c
      cases e
      obtain ⟨v, rfl, h⟩ := dbA1 hx
      obtain rfl := h.int
      exact ⟨_, rfl, by omega, q _ H (Kp.refl _) (.str _)⟩
    · cases e
  · cases e⟩
/-- the numbers of a list of such -/
@[simp] def intsO : List D → Option (List Int)
  | [] => some []
  | .int i :: r => (intsO r).map (i :: ·)
  | _ :: _ => none
@[simp] def boolsO : List D → Option (List Bool)
  | [] => some []
  | .bool i :: r => (boolsO r).map (i :: ·)
  | _ :: _ => none
theorem ints_some : ∀ {ds : List D} {ns : List Int}, intsO ds = some ns → ds = ns.map PyData.int
  | [], ns, h => by cases h; rfl
  | .int i :: r, ns, h => by
    unfold intsO at h
    cases e : intsO r with
    | none => rw [e] at h; cases h
    | some ms => rw [e] at h; cases h; rw [ints_some e]; rfl
  | .none :: _, _, h => by simp [intsO] at h
  | .bool _ :: _, _, h => by simp [intsO] at h
  | .str _ :: _, _, h => by simp [intsO] at h
  | .list _ :: _, _, h => by simp [intsO] at h
  | .tuple _ :: _, _, h => by simp [intsO] at h
  | .dict _ :: _, _, h => by simp [intsO] at h
theorem bools_some : ∀ {ds : List D} {ns : List Bool}, boolsO ds = some ns → ds = ns.map PyData.bool
  | [], ns, h => by cases h; rfl
  | .bool i :: r, ns, h => by
    unfold boolsO at h
    cases e : boolsO r with
    | none => rw [e] at h; cases h
    | some ms => rw [e] at h; cases h; rw [bools_some e]; rfl
  | .none :: _, _, h => by simp [boolsO] at h
  | .int _ :: _, _, h => by simp [boolsO] at h
  | .str _ :: _, _, h => by simp [boolsO] at h
  | .list _ :: _, _, h => by simp [boolsO] at h
  | .tuple _ :: _, _, h => by simp [boolsO] at h
  | .dict _ :: _, _, h => by simp [boolsO] at h
theorem ints_map : ∀ ns : List Int, intsO (ns.map PyData.int) = some ns
  | [] => rfl
  | n :: r => by show (intsO (r.map PyData.int)).map _ = _; rw [ints_map r]; rfl
theorem bools_map : ∀ ns : List Bool, boolsO (ns.map PyData.bool) = some ns
  | [] => rfl
  | n :: r => by show (boolsO (r.map PyData.bool)).map _ = _; rw [bools_map r]; rfl
theorem dvInts {H : Hp} {S : Addr → Prop} : ∀ {ns : List Int} {vs : List V}, DvA K H S vs (ns.map PyData.int) → vs = ns.map V.int
  | [], _, h => by cases h; rfl
  | n :: r, _, h => by
    cases h with
    | cons a b => cases a; rw [dvInts b]; rfl
theorem dvBools {H : Hp} {S : Addr → Prop} : ∀ {ns : List Bool} {vs : List V}, DvA K H S vs (ns.map PyData.bool) → vs = ns.map V.bl
  | [], _, h => by cases h; rfl
  | n :: r, _, h => by
    cases h with
    | cons a b => cases a; rw [dvBools b]; rfl
theorem intsDv {H : Hp} {S : Addr → Prop} : ∀ (ns : List Int), DvA K H S (ns.map V.int) (ns.map PyData.int)
  | [] => .nil
  | n :: r => .cons (.int n) (intsDv r)
@[simp] def sumF : F1 := fun ds => match ds with
  | [.list a] => (intsO a).map fun ns => .int ns.sum
  | _ => none
@[simp] def anyF : F1 := fun ds => match ds with
  | [.list a] => (boolsO a).map fun bs => .bool (bs.any id)
  | _ => none
@[simp] def allF : F1 := fun ds => match ds with
  | [.list a] => (boolsO a).map fun bs => .bool (bs.all id)
  | _ => none
theorem cf_sum : CF K (rSum K) sumF := ⟨fun fr H S al vs ds hx d e Q q => by
  unfold sumF at e
  split at e
  · rename_i a
    cases ei : intsO a with
    | none => rw [ei] at e; cases e
    | some ns =>
      rw [ei] at e
      cases e
      obtain ⟨v, rfl, h⟩ := dbA1 hx
      obtain ⟨p, xs, rfl, ep, rp⟩ := h.list
      rw [ints_some ei] at rp
      obtain rfl := dvInts rp
      exact ⟨p, ns, rfl, sqL ep, q _ H (Kp.refl _) (.int _)⟩
  · cases e⟩
theorem cf_any : CF K (rAny K) anyF := ⟨fun fr H S al vs ds hx d e Q q => by
  unfold anyF at e
  split at e
  · rename_i a
    cases ei : boolsO a with
    | none => rw [ei] at e; cases e
    | some ns =>
      rw [ei] at e
      cases e
      obtain ⟨v, rfl, h⟩ := dbA1 hx
      obtain ⟨p, xs, rfl, ep, rp⟩ := h.list
      rw [bools_some ei] at rp
      obtain rfl := dvBools rp
      exact ⟨p, ns, rfl, sqL ep, q _ H (Kp.refl _) (.bl _)⟩
  · cases e⟩
theorem cf_all : CF K (rAll K) allF := ⟨fun fr H S al vs ds hx d e Q q => by
  unfold allF at e
  split at e
  · rename_i a
    cases ei : boolsO a with
    | none => rw [ei] at e; cases e
    | some ns =>
      rw [ei] at e
      cases e
      obtain ⟨v, rfl, h⟩ := dbA1 hx
      obtain ⟨p, xs, rfl, ep, rp⟩ := h.list
      rw [bools_some ei] at rp
      obtain rfl := dvBools rp
      exact ⟨p, ns, rfl, sqL ep, q _ H (Kp.refl _) (.bl _)⟩
  · cases e⟩
@[simp] def listF : F1 := fun ds => match ds with
  | [.list a] => some (.list a)
  | [.tuple a] => some (.list a)
  | _ => none
theorem cn_list : CN K (fun xs H Q => ∃ p ys, xs = [.ref p] ∧ (SqL K H p ys ∨ SqT K H p ys) ∧ ∀ l, H l = none → Q (.ref l) (upd H l (.lst ys))) listF := ⟨fun fr H S al vs ds hx d e Q q => by
  unfold listF at e
  split at e
  · cases e
    obtain ⟨v, rfl, h⟩ := dbA1 hx
    obtain ⟨p, xs, rfl, ep, rp⟩ := h.list
    exact ⟨p, xs, rfl, .inl (sqL ep), fun l hl => q _ _ (upN hl) (dnNew al hl rp)⟩
  · cases e
    obtain ⟨v, rfl, h⟩ := dbA1 hx
    obtain ⟨p, xs, rfl, ep, rp⟩ := h.tuple
    exact ⟨p, xs, rfl, .inr ep.sq, fun l hl => q _ _ (upN hl) (dnNew al hl rp)⟩
  · cases e⟩
@[simp] def tupleF : F1 := fun ds => match ds with
  | [.list a] => some (.tuple a)
  | [.tuple a] => some (.tuple a)
  | _ => none
theorem cf_tuple : CF K (rTupF K) tupleF := ⟨fun fr H S al vs ds hx d e Q q => by
  unfold tupleF at e
  split at e
  · cases e
    obtain ⟨v, rfl, h⟩ := dbA1 hx
    obtain ⟨p, xs, rfl, ep, rp⟩ := h.list
    exact ⟨p, xs, rfl, .inl ⟨sqL ep, fun l o hl ty => q _ _ (upN hl) (dvTup al hl ty rp)⟩⟩
  · cases e
    obtain ⟨v, rfl, h⟩ := dbA1 hx
    obtain ⟨p, xs, rfl, ep, rp⟩ := h.tuple
    exact ⟨p, xs, rfl, .inr ⟨ep.sq, q _ H (Kp.refl _) (.tup ep rp)⟩⟩
  · cases e⟩
/-! ### isinstance, repr -/
def tyName : D → String
  | .none => "NoneType"
  | .bool _ => "bool"
  | .int _ => "int"
  | .str _ => "str"
  | .list _ => "list"
  | .tuple _ => "tuple"
  | .dict _ => "dict"
def isiB (T : String) (d : D) : Bool := T == tyName d || (T == "int" && tyName d == "bool")
@[simp] def xIsi (T : String) (a : Ex) : Ex := fun ρ π => (a ρ π).map fun x => (.bool (isiB T x.1), x.2)
theorem STp.ty {H : Hp} {S : Addr → Prop} {a : Addr} {xs : List V} (h : STp K H S a xs) : TyX K H (.ref a) (.type "tuple") := by
  rcases h with ⟨o, _, r, _⟩ | ⟨o, its, n, e, c, _⟩
  · exact .fTuple r
  · exact .kTuple e c.1
theorem Db.ty {fr : Fm} {H : Hp} {S : Addr → Prop} {v : V} {d : D} (h : Db K fr H S v d) : TyX K H v (.type (tyName d)) := by
  rcases h with h | ⟨a, xs, ds, rfl, _, rfl, q, z⟩
  · cases h with
    | non => exact .base .non
    | bl b => exact .base (.bl b)
    | int b => exact .base (.int b)
    | str b => exact .base (.str b)
    | lst e n r => exact .base (.lst e)
    | tup e r => exact e.ty
    | dct e n m r => exact .fDict e
  · exact .base (.lst q)
def IsiT (T : String) : Prop := ∀ d : D, kitB (tyName d) T = some (isiB T d)
theorem isi_int : IsiT "int" := fun d => by
  cases d with
  | none => exact (show kitB "NoneType" "int" = some false by decide +kernel)
  | bool b => exact (show kitB "bool" "int" = some true by decide +kernel)
  | int i => exact (show kitB "int" "int" = some true by decide +kernel)
  | str s => exact (show kitB "str" "int" = some false by decide +kernel)
  | list xs => exact (show kitB "list" "int" = some false by decide +kernel)
  | tuple xs => exact (show kitB "tuple" "int" = some false by decide +kernel)
  | dict k => exact (show kitB "dict" "int" = some false by decide +kernel)
theorem isi_bool : IsiT "bool" := fun d => by
  cases d with
  | none => exact (show kitB "NoneType" "bool" = some false by decide +kernel)
  | bool b => exact (show kitB "bool" "bool" = some true by decide +kernel)
  | int i => exact (show kitB "int" "bool" = some false by decide +kernel)
  | str s => exact (show kitB "str" "bool" = some false by decide +kernel)
  | list xs => exact (show kitB "list" "bool" = some false by decide +kernel)
  | tuple xs => exact (show kitB "tuple" "bool" = some false by decide +kernel)
  | dict k => exact (show kitB "dict" "bool" = some false by decide +kernel)
theorem isi_str : IsiT "str" := fun d => by
  cases d with
  | none => exact (show kitB "NoneType" "str" = some false by decide +kernel)
  | bool b => exact (show kitB "bool" "str" = some false by decide +kernel)
  | int i => exact (show kitB "int" "str" = some false by decide +kernel)
  | str s => exact (show kitB "str" "str" = some true by decide +kernel)
  | list xs => exact (show kitB "list" "str" = some false by decide +kernel)
  | tuple xs => exact (show kitB "tuple" "str" = some false by decide +kernel)
  | dict k => exact (show kitB "dict" "str" = some false by decide +kernel)
theorem isi_list : IsiT "list" := fun d => by
  cases d with
  | none => exact (show kitB "NoneType" "list" = some false by decide +kernel)
  | bool b => exact (show kitB "bool" "list" = some false by decide +kernel)
  | int i => exact (show kitB "int" "list" = some false by decide +kernel)
  | str s => exact (show kitB "str" "list" = some false by decide +kernel)
  | list xs => exact (show kitB "list" "list" = some true by decide +kernel)
  | tuple xs => exact (show kitB "tuple" "list" = some false by decide +kernel)
  | dict k => exact (show kitB "dict" "list" = some false by decide +kernel)
theorem isi_tuple : IsiT "tuple" := fun d => by
  cases d with
  | none => exact (show kitB "NoneType" "tuple" = some false by decide +kernel)
  | bool b => exact (show kitB "bool" "tuple" = some false by decide +kernel)
  | int i => exact (show kitB "int" "tuple" = some false by decide +kernel)
  | str s => exact (show kitB "str" "tuple" = some false by decide +kernel)
  | list xs => exact (show kitB "list" "tuple" = some false by decide +kernel)
  | tuple xs => exact (show kitB "tuple" "tuple" = some true by decide +kernel)
  | dict k => exact (show kitB "dict" "tuple" = some false by decide +kernel)
theorem isi_dict : IsiT "dict" := fun d => by
  cases d with
  | none => exact (show kitB "NoneType" "dict" = some false by decide +kernel)
  | bool b => exact (show kitB "bool" "dict" = some false by decide +kernel)
  | int i => exact (show kitB "int" "dict" = some false by decide +kernel)
  | str s => exact (show kitB "str" "dict" = some false by decide +kernel)
  | list xs => exact (show kitB "list" "dict" = some false by decide +kernel)
  | tuple xs => exact (show kitB "tuple" "dict" = some false by decide +kernel)
  | dict k => exact (show kitB "dict" "dict" = some true by decide +kernel)
theorem ef_isi {T : String} {t : TE} {a : Ex} (hT : IsiT T) (h : BF K t a) : EF K (tCB (rIsi K) (tCons t (tCons (tC (.ty T)) tNil))) (xIsi T a) := by
  refine ⟨fun fr σ H ρ π R d π' e Q q => ?_⟩
  unfold xIsi at e
  cases ea : a ρ π with
  | none => rw [ea] at e; cases e
  | some x =>
    rw [ea] at e
    cases e
    refine h.go fr σ H ρ π R x.1 x.2 ea _ fun v H' R' c b => ?_
    exact ⟨v, .ty T, .type (tyName x.1), .type T, _, rfl, .ty T, b.ty, kit_ty (hT x.1), q _ H' R' c (.bl _)⟩
end FL

noncomputable section
namespace FL
open PySem PySem.Spec PyProof.Rows L2 EP
variable {K : PySem.W.Frag}
/-! ### what is walked -/
/-- a value that is data, or (w) a tuple made for the turn alone -/
def Dx (K : PySem.W.Frag) (w : Bool) (H : Hp) (S : Addr → Prop) (v : V) (d : D) : Prop :=
  Dv K H S v d ∨ (w = true ∧ ∃ a xs ds, v = .ref a ∧ d = .tuple ds ∧ SqT K H a xs ∧ DvA K H S xs ds)
theorem Dx.dv {H : Hp} {S : Addr → Prop} {v : V} {d : D} (h : Dx K false H S v d) : Dv K H S v d := h.elim id fun z => by cases z.1
theorem Dx.weak {b : Bool} {H : Hp} {S S' : Addr → Prop} (w : ∀ a, S' a → S a) {v : V} {d : D} (h : Dx K b H S v d) : Dx K b H S' v d := by
  rcases h with h | ⟨e, a, xs, ds, rfl, rfl, q, r⟩
  · exact .inl (h.weak w)
  · exact .inr ⟨e, a, xs, ds, rfl, rfl, q, r.weak w⟩
theorem dxTup {H : Hp} {S : Addr → Prop} {p : Addr} {xs : List V} {ds : List D} (h : H p = none) (r : DvA K H S xs ds) : Dx K true (upd H p (.tup xs)) S (.ref p) (.tuple ds) :=
  .inr ⟨rfl, p, xs, ds, rfl, rfl, sqT upd_same, r.up (upN h) fun a z => .inl z⟩
structure ItOk (K : PySem.W.Frag) (w : Bool) (J : It) (P : Wd → Prop) (ds : List D) : Prop where
  st : ∀ A B, (∀ a, A.U a → A.S a) → P A → Step A B → P B
  stop : ∀ i A, P A → ds.length ≤ i → J.stop i A.H
  go : ∀ i d A, (∀ a, A.S a → A.H a ≠ none) → P A → ds[i]? = some d → J.go i A.H ∧ ∀ x H', J.yld i A.H x H' → Kp A.H H' ∧ Dx K w H' A.S x d
structure IF (K : PySem.W.Frag) (w : Bool) (t : TI) (f : Ax) : Prop where
  go : ∀ (fr : Fm) (σ : L2.St) (H : Hp) (ρ : En) (π : Pot), Rel K fr σ H ρ π → ∀ ds π', f ρ π = some (ds, π') → ∀ R : It → Hp → Prop,
    (∀ J P H', Rel K fr σ H' ρ π' → ChgP fr H H' → ItOk K w J P ds → P (wd fr σ ρ H') → R J H') → t σ H R
def LPre (K : PySem.W.Frag) (a : Addr) (xs : List V) (ds : List D) (A : Wd) : Prop := A.H a = some (.lst xs) ∧ ¬ A.U a ∧ DvA K A.H A.S xs ds
theorem LPre.step {a : Addr} {xs : List V} {ds : List D} {A B : Wd} (us : ∀ a, A.U a → A.S a) (h : LPre K a xs ds A) (x : Step A B) : LPre K a xs ds B := by
  refine ⟨x.keep _ _ h.2.1 h.1, fun z => ?_, h.2.2.step us x⟩
  rcases x.u a z with q | q
  · exact h.2.1 q
  · have h1 := h.1
    rw [q] at h1; cases h1
def TPre (K : PySem.W.Frag) (a : Addr) (xs : List V) (ds : List D) (A : Wd) : Prop := STp K A.H A.S a xs ∧ DvA K A.H A.S xs ds
theorem sqL_inj {H : Hp} {a : Addr} {xs ys : List V} (h : H a = some (.lst xs)) (h2 : Rd H a (.lst ys)) : ys = xs := by
  rcases h2 with h2 | ⟨o, h2⟩
  · rw [h] at h2; cases h2; rfl
  · rw [h] at h2; cases h2
theorem itl_ok {a : Addr} {xs : List V} {ds : List D} : ItOk K false (Itl K a) (LPre K a xs ds) ds := by
  refine ⟨fun A B us h x => h.step us x, fun i A h l => ⟨xs, sqL h.1, by rw [h.2.2.length]; exact l⟩, fun i d A al h e => ?_⟩
  obtain ⟨v, ev, dv⟩ := h.2.2.get e
  refine ⟨⟨xs, v, sqL h.1, ev⟩, fun x H' y => ?_⟩
  obtain ⟨e1, e2⟩ := y
  subst e1
  have e3 := e2 xs (sqL h.1)
  rw [ev] at e3
  cases e3
  exact ⟨Kp.refl _, .inl dv⟩
theorem itt_ok {a : Addr} {xs : List V} {ds : List D} : ItOk K false (Itt K a) (TPre K a xs ds) ds := by
  refine ⟨fun A B us h x => ⟨h.1.step us x, h.2.step us x⟩, fun i A h l => ⟨xs, h.1.sq, by rw [h.2.length]; exact l⟩, fun i d A al h e => ?_⟩
  obtain ⟨v, ev, dv⟩ := h.2.get e
  refine ⟨⟨xs, v, h.1.sq, ev⟩, fun x H' y => ?_⟩
  obtain ⟨e1, e2⟩ := y
  subst e1
  have e3 := e2 xs h.1.sq
  rw [ev] at e3
  cases e3
  exact ⟨Kp.refl _, .inl dv⟩
/-- a list that stands still while it is walked -/
structure LF (K : PySem.W.Frag) (t : TE) (f : Ex) : Prop where
  go : ∀ (fr : Fm) (σ : L2.St) (H : Hp) (ρ : En) (π : Pot), Rel K fr σ H ρ π → ∀ ds π', f ρ π = some (.list ds, π') → ∀ Q : VK,
    (∀ a xs H', Rel K fr σ H' ρ π' → ChgP fr H H' → LPre K a xs ds (wd fr σ ρ H') → Q (.ref a) H') → t σ H Q
theorem EF.lf {t : TE} {f : Ex} (h : EF K t f) : LF K t f := ⟨fun fr σ H ρ π R ds π' e Q q => h.go fr σ H ρ π R _ π' e Q fun v H' R' c dv => by
  cases dv with
  | lst e n r => exact q _ _ H' R' c ⟨e, fun z => n (R'.us _ z), r⟩⟩
@[simp] def xLv (i : Nat) : Ex := fun ρ π => match ρ[i]? with
  | some (.dat d) => some (d, π)
  | some (.arg ds) => some (.list ds, π)
  | _ => none
theorem lf_var (i : Nat) : LF K (tVar i) (xLv i) := by
  refine ⟨fun fr σ H ρ π R ds π' e Q q => ?_⟩
  unfold xLv at e
  split at e
  · rename_i s hs
    cases e
    obtain ⟨v, ev, dv⟩ := R.slot i _ hs
    cases dv with
    | lst e n r => exact ⟨_, ev, q _ _ H R (.refl _ _) ⟨e, fun z => n (R.us _ z), r⟩⟩
  · rename_i s hs
    cases e
    obtain ⟨a, xs, ev, ea, nu, dv⟩ := R.slot i _ hs
    exact ⟨_, ev, q a xs H R (.refl _ _) ⟨ea, nu, dv⟩⟩
  · cases e
@[simp] def lstOf : D → Option (List D)
  | .list ds => some ds
  | _ => none
@[simp] def tupOf : D → Option (List D)
  | .tuple ds => some ds
  | _ => none
theorem lstOf_some {d : D} {ds : List D} (h : lstOf d = some ds) : d = .list ds := by unfold lstOf at h; split at h <;> cases h; rfl
theorem tupOf_some {d : D} {ds : List D} (h : tupOf d = some ds) : d = .tuple ds := by unfold tupOf at h; split at h <;> cases h; rfl
@[simp] def iL (f : Ex) : Ax := fun ρ π => (f ρ π).bind fun x => (lstOf x.1).map fun ds => (ds, x.2)
@[simp] def iT (f : Ex) : Ax := fun ρ π => (f ρ π).bind fun x => (tupOf x.1).map fun ds => (ds, x.2)
theorem iL_some {f : Ex} {ρ : En} {π : Pot} {ds : List D} {π' : Pot} (e : iL f ρ π = some (ds, π')) : f ρ π = some (.list ds, π') := by
  unfold iL at e
  cases ea : f ρ π with
  | none => rw [ea] at e; cases e
  | some x =>
    rw [ea] at e
    simp only [Option.bind_some] at e
    cases ed : lstOf x.1 with
    | none => rw [ed] at e; cases e
    | some z =>
      rw [ed] at e; cases e
      rw [← lstOf_some ed]
theorem iT_some {f : Ex} {ρ : En} {π : Pot} {ds : List D} {π' : Pot} (e : iT f ρ π = some (ds, π')) : f ρ π = some (.tuple ds, π') := by
  unfold iT at e
  cases ea : f ρ π with
  | none => rw [ea] at e; cases e
  | some x =>
    rw [ea] at e
    simp only [Option.bind_some] at e
    cases ed : tupOf x.1 with
    | none => rw [ed] at e; cases e
    | some z =>
      rw [ed] at e; cases e
      rw [← tupOf_some ed]
theorem if_list {t : TE} {f : Ex} (h : LF K t f) : IF K false (iList K t) (iL f) := by
  refine ⟨fun fr σ H ρ π R ds π' e Q q => ?_⟩
  exact h.go fr σ H ρ π R ds π' (iL_some e) _ fun a xs H' R' c p => ⟨a, rfl, ⟨xs, sqL p.1⟩, q _ _ H' R' c itl_ok p⟩
theorem if_tup {t : TE} {f : Ex} (h : EF K t f) : IF K false (iTup K t) (iT f) := by
  refine ⟨fun fr σ H ρ π R ds π' e Q q => ?_⟩
  refine h.go fr σ H ρ π R _ π' (iT_some e) _ fun v H' R' c dv => ?_
  cases dv with
  | tup e r => exact ⟨_, rfl, ⟨_, e.sq⟩, q _ _ H' R' c itt_ok ⟨e, r⟩⟩
/-- numbers from lo on -/
def rg (lo : Int) (n : Nat) : List D := (List.range n).map fun (i : Nat) => PyData.int (lo + i)
theorem rg_length (lo : Int) (n : Nat) : (rg lo n).length = n := by simp [rg]
theorem rg_get {lo : Int} {n i : Nat} {d : D} (h : (rg lo n)[i]? = some d) : i < n ∧ d = .int (lo + i) := by
  unfold rg at h
  rw [List.getElem?_map] at h
  cases e : (List.range n)[i]? with
  | none => rw [e] at h; cases h
  | some j =>
    rw [e] at h
    cases h
    obtain ⟨l, e2⟩ := List.getElem?_eq_some_iff.mp e
    rw [List.getElem_range] at e2
    subst e2
    exact ⟨by simpa using l, rfl⟩
theorem itr_ok {lo : Int} {n : Nat} : ItOk K false (Itr lo n) (fun _ => True) (rg lo n) := by
  refine ⟨fun A B us h x => trivial, fun i A h l => (by rw [rg_length] at l; exact l), fun i d A al h e => ?_⟩
  obtain ⟨l, rfl⟩ := rg_get e
  refine ⟨l, fun x H' y => ?_⟩
  obtain ⟨e1, e2⟩ := y
  subst e1; subst e2
  exact ⟨Kp.refl _, .inl (.int _)⟩
def rgOk (i : Int) : Bool := cdec (-(2 ^ 62) ≤ i ∧ i < 2 ^ 62)
theorem rgOk_of {i : Int} (h : rgOk i = true) : -(2 ^ 62) ≤ i ∧ i < 2 ^ 62 := by
  exact of_cdec h
theorem rgOk_mk {i : Int} (h1 : -(2 ^ 62) ≤ i) (h2 : i < 2 ^ 62) : rgOk i = true := by
  exact cdec_of ⟨h1, h2⟩
@[simp] def rgF : List D → Option (List D)
  | [.int j] => if rgOk j = true then some (rg 0 j.toNat) else none
  | [.int i, .int j] => if rgOk i = true ∧ rgOk j = true then some (rg i (j - i).toNat) else none
  | _ => none
@[simp] def iR (a : Ax) : Ax := fun ρ π => (a ρ π).bind fun x => (rgF x.1).map fun ds => (ds, x.2)
theorem iR_some {a : Ax} {ρ : En} {π : Pot} {ds : List D} {π' : Pot} (e : iR a ρ π = some (ds, π')) : ∃ es, a ρ π = some (es, π') ∧ rgF es = some ds := by
  unfold iR at e
  cases ea : a ρ π with
  | none => rw [ea] at e; cases e
  | some x =>
    rw [ea] at e
    simp only [Option.bind_some] at e
    cases ed : rgF x.1 with
    | none => rw [ed] at e; cases e
    | some z => rw [ed] at e; cases e; exact ⟨x.1, rfl, ed⟩
theorem if_rng1 {t : TE} {a : Ex} (h : BF K t a) : IF K false (iRng1 (tCons t tNil)) (iR (aCons a aNil)) := by
  refine ⟨fun fr σ H ρ π R ds π' e Q q => ?_⟩
  obtain ⟨es, ea, ed⟩ := iR_some e
  obtain ⟨d, π1, es2, e1, e2, rfl⟩ := aCons_some ea
  cases e2
  refine (ab_cons h ab_nil).go fr σ H ρ π R _ π' ea _ fun vs H' R' c b => ?_
  unfold rgF at ed
  split at ed
  · rename_i j he
    cases he
    split at ed
    · rename_i k
      cases ed
      obtain ⟨v, rfl, h1⟩ := dbA1 b
      obtain rfl := h1.int
      have r := rgOk_of k
      exact ⟨j, rfl, r.1, r.2, q _ _ H' R' c itr_ok trivial⟩
    · cases ed
  · rename_i he; cases he
  · cases ed
theorem if_rng2 {t u : TE} {a b : Ex} (h : BF K t a) (h2 : BF K u b) : IF K false (iRng2 (tCons t (tCons u tNil))) (iR (aCons a (aCons b aNil))) := by
  refine ⟨fun fr σ H ρ π R ds π' e Q q => ?_⟩
  obtain ⟨es, ea, ed⟩ := iR_some e
  obtain ⟨d, π1, es2, e1, e2, rfl⟩ := aCons_some ea
  obtain ⟨d2, π2, es3, e3, e4, rfl⟩ := aCons_some e2
  cases e4
  refine (ab_cons h (ab_cons h2 ab_nil)).go fr σ H ρ π R _ π' ea _ fun vs H' R' c b => ?_
  unfold rgF at ed
  split at ed
  · rename_i he; cases he
  · rename_i i j he
    cases he
    split at ed
    · rename_i k
      cases ed
      obtain ⟨v, w, rfl, h1, h2⟩ := dbA2 b
      obtain rfl := h1.int
      obtain rfl := h2.int
      have r := rgOk_of k.1
      have r2 := rgOk_of k.2
      exact ⟨i, j, rfl, ⟨r.1, r.2, r2.1, r2.2⟩, q _ _ H' R' c itr_ok trivial⟩
    · cases ed
  · cases ed
/-! ### targets -/
abbrev Gx := D → En → Option En
/-- agree but at some places -/
def Ag (vs : List Nat) (σ σ' : L2.St) : Prop := σ'.length = σ.length ∧ ∀ i : Nat, i ∉ vs → σ'[i]? = σ[i]?
theorem Ag.trans {vs : List Nat} {a b c : L2.St} (x : Ag vs a b) (y : Ag vs b c) : Ag vs a c := ⟨y.1.trans x.1, fun i n => (y.2 i n).trans (x.2 i n)⟩
structure GF (K : PySem.W.Frag) (w : Bool) (vs : List Nat) (g : TG) (f : Gx) : Prop where
  ag : ∀ d ρ ρ', f d ρ = some ρ' → ∀ i : Nat, i ∉ vs → ρ'[i]? = ρ[i]?
  go : ∀ (fr : Fm) (σ : L2.St) (H : Hp) (ρ : En) (π : Pot), Rel K fr σ H ρ π → ∀ v d, Dx K w H (wd fr σ ρ H).S v d → ∀ ρ', f d ρ = some ρ' → ∀ Q : L2.St → Hp → Prop,
    (∀ σ', Rel K fr σ' H ρ' π → Step (wd fr σ ρ H) (wd fr σ' ρ' H) → Ag vs σ σ' → (∀ a, IsOwn σ' ρ' a → IsOwn σ ρ a) → Q σ' H) → g v σ H Q
structure GsF (K : PySem.W.Frag) (vs : List Nat) (g : TGs) (f : List D → En → Option En) : Prop where
  ag : ∀ d ρ ρ', f d ρ = some ρ' → ∀ i : Nat, i ∉ vs → ρ'[i]? = ρ[i]?
  go : ∀ (fr : Fm) (σ : L2.St) (H : Hp) (ρ : En) (π : Pot), Rel K fr σ H ρ π → ∀ xs ds, DvA K H (wd fr σ ρ H).S xs ds → ∀ ρ', f ds ρ = some ρ' → ∀ Q : L2.St → Hp → Prop,
    (∀ σ', Rel K fr σ' H ρ' π → Step (wd fr σ ρ H) (wd fr σ' ρ' H) → Ag vs σ σ' → (∀ a, IsOwn σ' ρ' a → IsOwn σ ρ a) → Q σ' H) → g xs σ H Q
theorem own_set {σ : L2.St} {ρ : En} {i : Nat} {v : Option V} {s : Slot} (n : s.isOwn = false) {a : Addr} (h : IsOwn (σ.set i v) (ρ.set i s) a) : IsOwn σ ρ a := by
  obtain ⟨j, t, e, o, q⟩ := h
  by_cases c : i = j
  · subst c
    rw [List.getElem?_set_self'] at e
    cases z : ρ[i]? with
    | none => rw [z] at e; cases e
    | some w =>
      rw [z] at e; cases e
      have o : s.isOwn = true := o
      rw [n] at o; cases o
  · rw [List.getElem?_set_ne c] at e q
    exact ⟨j, t, e, o, q⟩
/-- a name gets data -/
theorem Rel.set {fr : Fm} {σ : L2.St} {H : Hp} {ρ : En} {π : Pot} (R : Rel K fr σ H ρ π) {i : Nat} {v : V} {d : D} (dv : Dv K H (wd fr σ ρ H).S v d) :
    Rel K fr (σ.set i (some v)) H (ρ.set i (.dat d)) π ∧ Step (wd fr σ ρ H) (wd fr (σ.set i (some v)) (ρ.set i (.dat d)) H) := by
  have ow : ∀ a, IsOwn (σ.set i (some v)) (ρ.set i (.dat d)) a → IsOwn σ ρ a := fun a h => own_set rfl h
  have st : Step (wd fr σ ρ H) (wd fr (σ.set i (some v)) (ρ.set i (.dat d)) H) := ⟨fun _ _ _ h => h, fun a h => .inl (h.imp id (ow a)), fun a h => .inl (h.imp id (ow a))⟩
  refine ⟨⟨by simp [R.len], fun j s e => ?_, fun j k s t a e1 e2 o1 o2 q1 q2 => ?_, R.all, fun a h => ?_, fun a h => R.os a (ow a h)⟩, st⟩
  · by_cases c : i = j
    · subst c
      have l : i < ρ.length := by
        have := (List.getElem?_eq_some_iff.mp e).1
        simpa using this
      rw [List.getElem?_set_self l] at e
      cases e
      refine ⟨v, by rw [List.getElem?_set_self (by rw [R.len]; exact l)], dv.step R.us st⟩
    · rw [List.getElem?_set_ne c] at e ⊢
      exact (R.slot j s e).stepP R.us st (fun a h => h.imp id (ow a)) fun _ _ _ _ h => h
  · have d1 : i ≠ j := fun c => by
      subst c
      rw [List.getElem?_set_self'] at e1
      cases z : ρ[i]? with
      | none => rw [z] at e1; cases e1
      | some w => rw [z] at e1; cases e1; cases o1
    have d2 : i ≠ k := fun c => by
      subst c
      rw [List.getElem?_set_self'] at e2
      cases z : ρ[i]? with
      | none => rw [z] at e2; cases e2
      | some w => rw [z] at e2; cases e2; cases o2
    rw [List.getElem?_set_ne d1] at e1 q1
    rw [List.getElem?_set_ne d2] at e2 q2
    exact R.nd j k s t a e1 e2 o1 o2 q1 q2
  · obtain ⟨p1, p2, p3⟩ := R.pt a h
    exact ⟨p1, fun z => p2 (ow a z), p3⟩
@[simp] def gN (i : Nat) : Gx := fun d ρ => some (ρ.set i (.dat d))
theorem gf_name {i : Nat} : GF K false [i] (gName i) (gN i) := by
  refine ⟨fun d ρ ρ' e j n => ?_, fun fr σ H ρ π R v d dv ρ' e Q q => ?_⟩
  · cases e
    rw [List.getElem?_set_ne]
    intro z; exact n (by rw [z]; simp)
  cases e
  obtain ⟨R', st⟩ := R.set (i := i) dv.dv
  refine q _ R' st ⟨by simp, fun j n => ?_⟩ (fun a h => own_set rfl h)
  rw [List.getElem?_set_ne]
  intro z; exact n (by rw [z]; simp)
@[simp] def gsN : List D → En → Option En := fun ds ρ => match ds with
  | [] => some ρ
  | _ => none
@[simp] def gsC (f : Gx) (g : List D → En → Option En) : List D → En → Option En := fun ds ρ => match ds with
  | d :: r => (f d ρ).bind fun ρ1 => g r ρ1
  | _ => none
theorem gsf_nil {vs : List Nat} : GsF K vs gNil gsN := by
  refine ⟨fun d ρ ρ' e j n => (by unfold gsN at e; split at e <;> cases e; rfl), fun fr σ H ρ π R xs ds dv ρ' e Q q => ?_⟩
  unfold gsN at e
  split at e
  · cases e
    cases dv
    exact ⟨rfl, q σ R (Step.refl _) ⟨rfl, fun _ _ => rfl⟩ fun _ h => h⟩
  · cases e
theorem Ag.mono {vs ws : List Nat} {a b : L2.St} (x : Ag vs a b) (h : ∀ i ∈ vs, i ∈ ws) : Ag ws a b := ⟨x.1, fun i n => x.2 i fun z => n (h i z)⟩
theorem gsf_cons {vs ws : List Nat} {t : TG} {u : TGs} {f : Gx} {g : List D → En → Option En} (h : GF K false vs t f) (h2 : GsF K ws u g) : GsF K (vs ++ ws) (gCons t u) (gsC f g) := by
  refine ⟨fun ds ρ ρ' e j n => ?_, fun fr σ H ρ π R xs ds dv ρ' e Q q => ?_⟩
  · unfold gsC at e
    split at e
    · rename_i d r
      cases ef : f d ρ with
      | none => rw [ef] at e; cases e
      | some ρ1 =>
        rw [ef] at e
        rw [h2.ag r ρ1 ρ' e j fun z => n (List.mem_append_right _ z), h.ag d ρ ρ1 ef j fun z => n (List.mem_append_left _ z)]
    · cases e
  unfold gsC at e
  split at e
  · rename_i d r
    cases dv with
    | cons a b =>
      rename_i v vr
      cases ef : f d ρ with
      | none => rw [ef] at e; cases e
      | some ρ1 =>
        rw [ef] at e
        refine ⟨v, vr, rfl, ?_⟩
        refine h.go fr σ H ρ π R v d (.inl a) ρ1 ef _ fun σ1 R1 s1 a1 o1 => ?_
        refine h2.go fr σ1 H ρ1 π R1 vr r (b.step R.us s1) ρ' e Q fun σ2 R2 s2 a2 o2 => ?_
        exact q σ2 R2 (s1.trans R.us s2) ((a1.mono fun i z => List.mem_append_left _ z).trans (a2.mono fun i z => List.mem_append_right _ z)) fun a z => o1 a (o2 a z)
  · cases e
@[simp] def gT (n : Nat) (g : List D → En → Option En) : Gx := fun d ρ => match d with
  | .tuple ds => if ds.length = n then g ds ρ else none
  | _ => none
theorem gf_tup {w : Bool} {vs : List Nat} {n : Nat} {u : TGs} {g : List D → En → Option En} (h : GsF K vs u g) : GF K w vs (gTup K n u) (gT n g) := by
  refine ⟨fun d ρ ρ' e j m => (by
    unfold gT at e
    split at e
    · split at e
      · exact h.ag _ ρ ρ' e j m
      · cases e
    · cases e), fun fr σ H ρ π R v d dv ρ' e Q q => ?_⟩
  unfold gT at e
  split at e
  · split at e
    · rename_i ds l
      rcases dv with dv | ⟨_, a, xs, ds2, rfl, ed, q1, r⟩
      · cases dv with
        | tup e1 r => exact ⟨_, _, rfl, e1.sq, by rw [r.length]; exact l, h.go fr σ H ρ π R _ ds r ρ' e Q q⟩
      · cases ed
        exact ⟨_, _, rfl, q1, by rw [r.length]; exact l, h.go fr σ H ρ π R _ ds r ρ' e Q q⟩
    · cases e
  · cases e
/-! ### comprehensions -/
@[simp] def wipeE (ρ : En) : List Nat → En
  | [] => ρ
  | v :: vs => (wipeE ρ vs).set v .un
@[simp] def ownFree (ρ : En) (vs : List Nat) : Bool := vs.all fun i => match ρ[i]? with
  | some s => !s.isOwn
  | none => true
@[simp] def lcGo (tg : Gx) (tt : Tx) (el : Ex) (ρw : En) : List D → Pot → Option (List D × Pot)
  | [], π => some ([], π)
  | d :: r, π => (tg d ρw).bind fun ρ2 => (tt ρ2 π).bind fun b => if b.1 = true then (el ρ2 b.2).bind fun y => (lcGo tg tt el ρw r y.2).map fun z => (y.1 :: z.1, z.2) else lcGo tg tt el ρw r b.2
@[simp] def xLc (it : Ax) (tg : Gx) (tt : Tx) (el : Ex) (vs : List Nat) : Ex := fun ρ π => (it ρ π).bind fun x =>
  if ownFree ρ vs = true ∧ x.1.length ≤ 100000 then (lcGo tg tt el (wipeE ρ vs) x.1 x.2).map fun z => (.list z.1, z.2) else none
theorem wipeE_length (ρ : En) : ∀ vs, (wipeE ρ vs).length = ρ.length
  | [] => rfl
  | v :: vs => by show ((wipeE ρ vs).set v .un).length = _; rw [List.length_set]; exact wipeE_length ρ vs
theorem Rel.unset {fr : Fm} {σ : L2.St} {H : Hp} {ρ : En} {π : Pot} (R : Rel K fr σ H ρ π) (i : Nat) : Rel K fr (σ.set i none) H (ρ.set i .un) π ∧ ∀ a, IsOwn (σ.set i none) (ρ.set i .un) a → IsOwn σ ρ a := by
  have ow : ∀ a, IsOwn (σ.set i none) (ρ.set i .un) a → IsOwn σ ρ a := fun a h => own_set rfl h
  have st : Step (wd fr σ ρ H) (wd fr (σ.set i none) (ρ.set i .un) H) := ⟨fun _ _ _ h => h, fun a h => .inl (h.imp id (ow a)), fun a h => .inl (h.imp id (ow a))⟩
  refine ⟨⟨by simp [R.len], fun j s e => ?_, fun j k s t a e1 e2 o1 o2 q1 q2 => ?_, R.all, fun a h => ?_, fun a h => R.os a (ow a h)⟩, ow⟩
  · by_cases c : i = j
    · subst c
      rw [List.getElem?_set_self'] at e
      cases z : ρ[i]? with
      | none => rw [z] at e; cases e
      | some w => rw [z] at e; cases e; trivial
    · rw [List.getElem?_set_ne c] at e ⊢
      exact (R.slot j s e).stepP R.us st (fun a h => h.imp id (ow a)) fun _ _ _ _ h => h
  · have d1 : i ≠ j := fun c => by
      subst c
      rw [List.getElem?_set_self'] at e1
      cases z : ρ[i]? with
      | none => rw [z] at e1; cases e1
      | some w => rw [z] at e1; cases e1; cases o1
    have d2 : i ≠ k := fun c => by
      subst c
      rw [List.getElem?_set_self'] at e2
      cases z : ρ[i]? with
      | none => rw [z] at e2; cases e2
      | some w => rw [z] at e2; cases e2; cases o2
    rw [List.getElem?_set_ne d1] at e1 q1
    rw [List.getElem?_set_ne d2] at e2 q2
    exact R.nd j k s t a e1 e2 o1 o2 q1 q2
  · obtain ⟨p1, p2, p3⟩ := R.pt a h
    exact ⟨p1, fun z => p2 (ow a z), p3⟩
theorem Rel.wiped {fr : Fm} {σ : L2.St} {H : Hp} {ρ : En} {π : Pot} (R : Rel K fr σ H ρ π) : ∀ vs, Rel K fr (wipe σ vs) H (wipeE ρ vs) π ∧ ∀ a, IsOwn (wipe σ vs) (wipeE ρ vs) a → IsOwn σ ρ a
  | [] => ⟨R, fun _ h => h⟩
  | v :: vs => by
    obtain ⟨R1, o1⟩ := R.wiped vs
    obtain ⟨R2, o2⟩ := R1.unset v
    exact ⟨R2, fun a h => o1 a (o2 a h)⟩
theorem wipe_get (σ : L2.St) : ∀ (vs : List Nat) (i : Nat), i ∉ vs → (wipe σ vs)[i]? = σ[i]?
  | [], i, _ => rfl
  | v :: vs, i, h => by
    show ((wipe σ vs).set v none)[i]? = _
    rw [List.getElem?_set_ne (fun z => h (by rw [z]; simp))]
    exact wipe_get σ vs i fun z => h (List.mem_cons_of_mem _ z)
theorem wipe_in (σ : L2.St) : ∀ (vs : List Nat) (i : Nat), i ∈ vs → (wipe σ vs)[i]? = if i < σ.length then some none else none
  | v :: vs, i, h => by
    show ((wipe σ vs).set v none)[i]? = _
    by_cases c : v = i
    · subst c
      rw [List.getElem?_set_self']
      have l := wipe_length σ vs
      by_cases z : v < σ.length
      · rw [if_pos z, List.getElem?_eq_getElem (by rw [l]; exact z)]; rfl
      · rw [if_neg z, List.getElem?_eq_none (by rw [l]; omega)]; rfl
    · rw [List.getElem?_set_ne c]
      refine wipe_in σ vs i ?_
      rcases List.mem_cons.mp h with z | z
      · exact absurd z.symm c
      · exact z
theorem wipe_ag {vs : List Nat} {σ σ' : L2.St} (h : Ag vs (wipe σ vs) σ') : wipe σ' vs = wipe σ vs := by
  refine List.ext_getElem? fun i => ?_
  have l : σ'.length = σ.length := by rw [h.1, wipe_length]
  by_cases c : i ∈ vs
  · rw [wipe_in _ _ _ c, wipe_in _ _ _ c, l]
  · rw [wipe_get _ _ _ c, h.2 i c]
theorem wipeE_get (ρ : En) : ∀ (vs : List Nat) (i : Nat), i ∉ vs → (wipeE ρ vs)[i]? = ρ[i]?
  | [], i, _ => rfl
  | v :: vs, i, h => by
    show ((wipeE ρ vs).set v .un)[i]? = _
    rw [List.getElem?_set_ne (fun z => h (by rw [z]; simp))]
    exact wipeE_get ρ vs i fun z => h (List.mem_cons_of_mem _ z)
theorem own_wipe {σ : L2.St} {ρ : En} {vs : List Nat} (h : ownFree ρ vs = true) {a : Addr} (o : IsOwn σ ρ a) : IsOwn (wipe σ vs) (wipeE ρ vs) a := by
  obtain ⟨i, s, e, q, r⟩ := o
  have n : i ∉ vs := fun z => by
    have := List.all_eq_true.mp h i z
    rw [e] at this
    simp [q] at this
  exact ⟨i, s, by rw [wipeE_get _ _ _ n]; exact e, q, by rw [wipe_get _ _ _ n]; exact r⟩
/-- the same in a frame that keeps one address more -/
theorem Rel.keep {fr : Fm} {σ : L2.St} {H H' : Hp} {ρ : En} {π π' : Pot} (R : Rel K fr σ H ρ π) (c : ChgP fr H H') {p : Addr} (h : H p = none) (h' : H' p ≠ none)
    (pf : ∀ a, fr.pt = some a → H' a = some (.lst (π'.map V.int))) :
    Rel K ⟨fun a => fr.S0 a ∨ a = p, fr.pt⟩ σ H' ρ π' ∧ Step (wd fr σ ρ H) (wd ⟨fun a => fr.S0 a ∨ a = p, fr.pt⟩ σ ρ H') := by
  have st : Step (wd fr σ ρ H) (wd ⟨fun a => fr.S0 a ∨ a = p, fr.pt⟩ σ ρ H') := by
    refine ⟨fun b o n z => c b o (fun y => n (.inl y)) z, fun a z => .inl z, fun a z => ?_⟩
    rcases z with (z | z) | z
    · exact .inl (.inl z)
    · exact .inr (by rw [z]; exact h)
    · exact .inl (.inr z)
  refine ⟨⟨R.len, fun i s e => ?_, R.nd, fun a z => ?_, fun a z => ⟨.inl (R.pt a z).1, (R.pt a z).2.1, pf a z⟩, fun a z y => ?_⟩, st⟩
  · have := (R.slot i s e).stepP R.us st (fun _ h => h) fun o a u e2 q => c a u (fun y => (R.pt a y).2.1 ⟨i, s, e, o, e2⟩) q
    cases s <;> exact this
  · rcases z with z | z
    · intro y
      by_cases w : fr.pt = some a
      · rw [pf a w] at y; cases y
      · cases q : H a with
        | none => exact R.all a z q
        | some o => rw [c a o w q] at y; cases y
    · rw [z]; exact h'
  · rcases y with y | y
    · exact R.os a z y
    · exact R.ownSome z (by rw [y]; exact h)
theorem xLc_some {it : Ax} {tg : Gx} {tt : Tx} {el : Ex} {vs : List Nat} {ρ : En} {π : Pot} {d : D} {π' : Pot} (e : xLc it tg tt el vs ρ π = some (d, π')) :
    ∃ ds π1 acc, it ρ π = some (ds, π1) ∧ ownFree ρ vs = true ∧ ds.length ≤ 100000 ∧ lcGo tg tt el (wipeE ρ vs) ds π1 = some (acc, π') ∧ d = .list acc := by
  unfold xLc at e
  cases ea : it ρ π with
  | none => rw [ea] at e; cases e
  | some x =>
    rw [ea] at e
    simp only [Option.bind_some] at e
    split at e
    · rename_i c
      cases eb : lcGo tg tt el (wipeE ρ vs) x.1 x.2 with
      | none => rw [eb] at e; cases e
      | some y => rw [eb] at e; cases e; exact ⟨x.1, x.2, y.1, rfl, c.1, c.2, eb, rfl⟩
    · cases e
theorem drop_at {α : Type} {xs : List α} {i : Nat} (h : i < xs.length) : ∃ x, xs[i]? = some x ∧ xs.drop i = x :: xs.drop (i + 1) := ⟨xs[i], List.getElem?_eq_getElem h, List.drop_eq_getElem_cons h⟩
theorem nf_lc {w : Bool} {wi : TI} {it : Ax} {g : TG} {tg : Gx} {t : TT} {tt : Tx} {te : TE} {el : Ex} {vs : List Nat} (hi : IF K w wi it) (hg : GF K w vs g tg) (ht : TF K t tt) (he : EF K te el) : NF K (tLc wi g t te vs) (xLc it tg tt el vs) := by
  refine ⟨fun fr σ H ρ π R d π' e Q q => ?_⟩
  obtain ⟨ds, π1, acc, ei, of, ln, eg, rfl⟩ := xLc_some e
  refine hi.go fr σ H ρ π R ds π1 ei _ fun J P H1 R1 c1 ok p1 => ?_
  intro p hp
  have own1 : ∀ a, (wd fr σ ρ H1).S a → a ≠ p := fun a h z => R1.sSome h (by rw [z]; exact hp)
  refine ⟨fun i m H2 => m = ds.length - i ∧ i ≤ ds.length ∧ ∃ (π2 : Pot) (av : List V) (ad rest : List D), ChgP fr H1 H2 ∧
      (∀ a, fr.pt = some a → H2 a = some (.lst (π2.map V.int))) ∧
      H2 p = some (.lst av) ∧ DvA K H2 (fun b => (wd fr σ ρ H2).S b ∨ b = p) av ad ∧ ad.length ≤ i ∧
      lcGo tg tt el (wipeE ρ vs) (ds.drop i) π2 = some (rest, π') ∧ ad ++ rest = acc, ⟨ds.length, by omega, Nat.zero_le _, π1, [], [], acc, .of (upN hp), fun a h => ?_, upd_same, .nil, Nat.le_refl _, eg, rfl⟩, ?_⟩
  · exact upN hp _ _ (R1.pt a h).2.2
  rintro i m H2 ⟨rfl, il, π2, av, ad, rest, c2, pf, ep, da, la, el2, ea⟩
  obtain ⟨R2, st2⟩ := R1.keep c2 hp (by rw [ep]; intro z; cases z) pf
  have P2 := ok.st _ _ R1.us p1 st2
  by_cases c : i < ds.length
  · right
    obtain ⟨d, ed, edr⟩ := drop_at c
    rw [edr] at el2
    obtain ⟨go, yl⟩ := ok.go i d (wd ⟨fun a => fr.S0 a ∨ a = p, fr.pt⟩ σ ρ H2) R2.sA P2 ed
    refine ⟨go, fun H3 => ∃ (π3 : Pot) (av : List V) (ad rest : List D), ChgP fr H1 H3 ∧
      (∀ a, fr.pt = some a → H3 a = some (.lst (π3.map V.int))) ∧
      H3 p = some (.lst av) ∧ DvA K H3 (fun b => (wd fr σ ρ H3).S b ∨ b = p) av ad ∧ ad.length ≤ i + 1 ∧
      lcGo tg tt el (wipeE ρ vs) (ds.drop (i + 1)) π3 = some (rest, π') ∧ ad ++ rest = acc, fun H3 h3 => ⟨ds.length - (i + 1), by omega, rfl, by omega, h3⟩, ?_⟩
    intro x H3 y
    obtain ⟨k3, dx⟩ := yl x H3 y
    have R3 := R2.kp k3
    obtain ⟨Rw, ow⟩ := R3.wiped vs
    -- the turn
    unfold lcGo at el2
    cases etg : tg d (wipeE ρ vs) with
    | none => rw [etg] at el2; cases el2
    | some ρ2 =>
      rw [etg] at el2
      simp only [Option.bind_some] at el2
      have dxw : Dx K w H3 (wd ⟨fun a => fr.S0 a ∨ a = p, fr.pt⟩ (wipe σ vs) (wipeE ρ vs) H3).S x d := dx.weak fun a z => z.imp id (ow a)
      refine hg.go _ (wipe σ vs) H3 (wipeE ρ vs) π2 Rw x d dxw ρ2 etg _ fun σ2 R4 st4 ag4 ow4 => ?_
      refine ⟨wipe_ag ag4, ?_⟩
      -- what is kept in the names of the turn is what was
      have ownb : ∀ a, IsOwn σ ρ a → IsOwn σ2 ρ2 a := fun a h => by
        obtain ⟨j, s, e1, e2, e3⟩ := own_wipe of h
        have nj : j ∉ vs := fun z => by
          have o2 := h
          obtain ⟨j2, s2, f1, f2, f3⟩ := own_wipe of h
          have := wipe_in σ vs j z
          rw [e3] at this
          split at this <;> cases this
        exact ⟨j, s, by rw [hg.ag d _ ρ2 etg j nj]; exact e1, e2, by rw [ag4.2 j nj]; exact e3⟩
      have Sb : ∀ H a, (wd fr σ ρ H).S a ∨ a = p → (wd ⟨fun a => fr.S0 a ∨ a = p, fr.pt⟩ σ2 ρ2 H).S a := fun H a z => by
        rcases z with (z | z) | z
        · exact .inl (.inl z)
        · exact .inr (ownb a z)
        · exact .inl (.inr z)
      have fin : ∀ (H4 : Hp) (π4 : Pot), ChgP fr H3 H4 → Rel K ⟨fun a => fr.S0 a ∨ a = p, fr.pt⟩ σ2 H4 ρ2 π4 → ChgP fr H1 H4 ∧
          (∀ a, fr.pt = some a → H4 a = some (.lst (π4.map V.int))) ∧ H4 p = some (.lst av) ∧ DvA K H4 (fun b => (wd fr σ ρ H4).S b ∨ b = p) av ad := by
        intro H4 π4 c4 R5
        have np : fr.pt ≠ some p := fun z => own1 p (.inl (R1.pt p z).1) rfl
        have c24 : ChgP fr H2 H4 := (ChgP.of k3).trans c4
        refine ⟨c2.trans c24, fun a h => ?_, c24 _ _ np ep, ?_⟩
        · exact (R5.pt a h).2.2
        · refine DvA.step (A := ⟨fun a => fr.pt = some a, fun b => (wd fr σ ρ H2).S b ∨ b = p, H2⟩) (B := ⟨fun a => fr.pt = some a, fun b => (wd fr σ ρ H4).S b ∨ b = p, H4⟩) (fun a z => .inl (.inl (R1.pt a z).1)) ?_ da
          exact ⟨fun b o n z => c24 b o n z, fun a z => .inl z, fun a z => .inl z⟩
      cases ett : tt ρ2 π2 with
      | none => rw [ett] at el2; cases el2
      | some b =>
        rw [ett] at el2
        simp only [Option.bind_some] at el2
        refine ht.go _ σ2 H3 ρ2 π2 R4 b.1 b.2 ett _ fun H4 R5 c4 => ?_
        by_cases cb : b.1 = true
        · rw [if_pos cb] at el2 ⊢
          cases eel : el ρ2 b.2 with
          | none => rw [eel] at el2; cases el2
          | some y =>
            rw [eel] at el2
            simp only [Option.bind_some] at el2
            cases elr : lcGo tg tt el (wipeE ρ vs) (ds.drop (i + 1)) y.2 with
            | none => rw [elr] at el2; cases el2
            | some z =>
              rw [elr] at el2
              cases el2
              refine he.go _ σ2 H4 ρ2 b.2 R5 y.1 y.2 eel _ fun v H5 R6 c5 dv => ?_
              obtain ⟨f1, f2, f3, f4⟩ := fin H5 y.2 (c4.trans c5) R6
              refine ⟨av, f3, szLt (by rw [da.length]; omega), ?_⟩
              have np : fr.pt ≠ some p := fun z => own1 p (.inl (R1.pt p z).1) rfl
              have up : ∀ {ws : List V} {es : List D}, DvA K H5 (fun b => (wd fr σ ρ H5).S b ∨ b = p) ws es → DvA K (upd H5 p (.lst (av ++ [v]))) (fun b => (wd fr σ ρ (upd H5 p (.lst (av ++ [v])))).S b ∨ b = p) ws es := fun h =>
                DvA.step (A := ⟨fun a => a = p, fun b => (wd fr σ ρ H5).S b ∨ b = p, H5⟩) (B := ⟨fun a => a = p, fun b => (wd fr σ ρ (upd H5 p (.lst (av ++ [v])))).S b ∨ b = p, upd H5 p (.lst (av ++ [v]))⟩) (fun a z => .inr z)
                  ⟨fun b o n z => by show upd H5 p _ b = _; rw [upd_ne n]; exact z, fun a z => .inl z, fun a z => .inl z⟩ h
              refine ⟨y.2, av ++ [v], ad ++ [y.1], z.1, fun b o n w => ?_, fun a h => ?_, upd_same, ?_, by simp; omega, elr, by rw [List.append_assoc]; exact ea⟩
              · have : b ≠ p := fun q => by rw [q, hp] at w; cases w
                rw [upd_ne this]
                exact f1 b o n w
              · rw [upd_ne (fun q => np (by rw [← q]; exact h))]; exact f2 a h
              · refine up (f4.append (.cons (dv.weak fun a w => Sb H5 a w) .nil))
        · rw [if_neg cb] at el2 ⊢
          obtain ⟨f1, f2, f3, f4⟩ := fin H4 b.2 c4 R5
          exact ⟨b.2, av, ad, rest, f1, f2, f3, f4, by omega, el2, ea⟩
  · left
    have ie : i = ds.length := by omega
    refine ⟨ok.stop i (wd ⟨fun a => fr.S0 a ∨ a = p, fr.pt⟩ σ ρ H2) P2 (by omega), ?_⟩
    rw [ie, List.drop_length] at el2
    unfold lcGo at el2
    cases el2
    rw [List.append_nil] at ea
    subst ea
    have R5 : Rel K fr σ H2 ρ _ := R1.chg c2 pf
    exact q _ H2 R5 (c1.trans c2) ⟨p, av, ad, rfl, rfl, R1.back c1 hp, ep, fun z => own1 p z rfl, da⟩
end FL

noncomputable section
namespace FL
open PySem PySem.Spec PyProof.Rows L2 EP
variable {K : PySem.W.Frag}
/-! ### statements -/
inductive Out where
  | nx | bk | ct | rt (d : D)
abbrev Sx := En → Pot → Option (En × Pot × Out)
/-- what is handed back: data, or a list that the def made -/
def RV (K : PySem.W.Frag) (nw : Bool) (fr : Fm) (own : Addr → Prop) (H : Hp) (v : V) (d : D) (H' : Hp) : Prop :=
  if nw = true then ∃ p xs ds, v = .ref p ∧ d = .list ds ∧ (own p ∨ H p = none) ∧ H' p = some (.lst xs) ∧ ¬ fr.S0 p ∧ DvA K H' (fun a => fr.S0 a ∨ a = p) xs ds
  else Dv K H' fr.S0 v d
def EndOk (K : PySem.W.Frag) (nw : Bool) (fr : Fm) (σ : L2.St) (ρ : En) (H : Hp) (D : Ends) (ρ' : En) (π' : Pot) : Out → Prop
  | .nx => ∀ σ' H', Rel K fr σ' H' ρ' π' → Step (wd fr σ ρ H) (wd fr σ' ρ' H') → D.nx σ' H'
  | .bk => ∀ σ' H', Rel K fr σ' H' ρ' π' → Step (wd fr σ ρ H) (wd fr σ' ρ' H') → D.bk σ' H'
  | .ct => ∀ σ' H', Rel K fr σ' H' ρ' π' → Step (wd fr σ ρ H) (wd fr σ' ρ' H') → D.ct σ' H'
  | .rt d => ∀ v σ' H', Rel K fr σ' H' ρ' π' → Step (wd fr σ ρ H) (wd fr σ' ρ' H') → RV K nw fr (IsOwn σ ρ) H v d H' → D.rt v H'
structure SF (K : PySem.W.Frag) (nw : Bool) (t : TS) (g : Sx) : Prop where
  go : ∀ (fr : Fm) (σ : L2.St) (H : Hp) (ρ : En) (π : Pot), Rel K fr σ H ρ π → ∀ ρ' π' o, g ρ π = some (ρ', π', o) → ∀ D : Ends, EndOk K nw fr σ ρ H D ρ' π' o → t D σ H
theorem RV.trans {nw : Bool} {fr : Fm} {σ σ1 : L2.St} {ρ ρ1 : En} {π1 : Pot} {H H1 H' : Hp} {v : V} {d : D} (R1 : Rel K fr σ1 H1 ρ1 π1) (s : Step (wd fr σ ρ H) (wd fr σ1 ρ1 H1)) (h : RV K nw fr (IsOwn σ1 ρ1) H1 v d H') : RV K nw fr (IsOwn σ ρ) H v d H' := by
  unfold RV at h ⊢
  split at h
  · rename_i c
    rw [if_pos c]
    obtain ⟨p, xs, ds, e1, e2, e3, e4, e5, e6⟩ := h
    refine ⟨p, xs, ds, e1, e2, ?_, e4, e5, e6⟩
    have np : fr.pt ≠ some p := fun z => e5 (R1.pt p z).1
    have : (wd fr σ ρ H).U p ∨ H p = none := by
      rcases e3 with e3 | e3
      · exact s.u p (.inr e3)
      · exact s.none e3
    rcases this with (z | z) | z
    · exact absurd z np
    · exact .inl z
    · exact .inr z
  · rename_i c
    rw [if_neg c]
    exact h
theorem EndOk.from {nw : Bool} {fr : Fm} {σ σ1 : L2.St} {ρ ρ1 : En} {π π1 : Pot} {H H1 : Hp} {D : Ends} {ρ' : En} {π' : Pot} {o : Out} (R : Rel K fr σ H ρ π) (R1 : Rel K fr σ1 H1 ρ1 π1) (s : Step (wd fr σ ρ H) (wd fr σ1 ρ1 H1))
    (h : EndOk K nw fr σ ρ H D ρ' π' o) : EndOk K nw fr σ1 ρ1 H1 D ρ' π' o := by
  cases o with
  | nx => exact fun σ' H' R' s' => h σ' H' R' (s.trans R.us s')
  | bk => exact fun σ' H' R' s' => h σ' H' R' (s.trans R.us s')
  | ct => exact fun σ' H' R' s' => h σ' H' R' (s.trans R.us s')
  | rt d => exact fun v σ' H' R' s' rv => h v σ' H' R' (s.trans R.us s') (rv.trans R1 s)
@[simp] def sNext : Sx := fun ρ π => some (ρ, π, .nx)
@[simp] def sSeq (g h : Sx) : Sx := fun ρ π => (g ρ π).bind fun x => match x.2.2 with
  | .nx => h x.1 x.2.1
  | o => some (x.1, x.2.1, o)
theorem sf_next {nw : Bool} : SF K nw tNext sNext := ⟨fun fr σ H ρ π R ρ' π' o e D q => by cases e; exact q σ H R (Step.refl _)⟩
theorem sf_seq {nw : Bool} {t u : TS} {g h : Sx} (h1 : SF K nw t g) (h2 : SF K nw u h) : SF K nw (tSeq t u) (sSeq g h) := by
  refine ⟨fun fr σ H ρ π R ρ' π' o e D q => ?_⟩
  unfold sSeq at e
  cases eg : g ρ π with
  | none => rw [eg] at e; cases e
  | some x =>
    obtain ⟨ρ1, π1, o1⟩ := x
    rw [eg] at e
    simp only [Option.bind_some] at e
    refine h1.go fr σ H ρ π R ρ1 π1 o1 eg _ ?_
    cases o1 with
    | nx => exact fun σ1 H1 R1 s1 => h2.go fr σ1 H1 ρ1 π1 R1 ρ' π' o e D (q.from R R1 s1)
    | bk => cases e; exact q
    | ct => cases e; exact q
    | rt d => cases e; exact q
@[simp] def sBreak : Sx := fun ρ π => some (ρ, π, .bk)
@[simp] def sCont : Sx := fun ρ π => some (ρ, π, .ct)
theorem sf_break {nw : Bool} : SF K nw tBreak sBreak := ⟨fun fr σ H ρ π R ρ' π' o e D q => by cases e; exact q σ H R (Step.refl _)⟩
theorem sf_cont {nw : Bool} : SF K nw tCont sCont := ⟨fun fr σ H ρ π R ρ' π' o e D q => by cases e; exact q σ H R (Step.refl _)⟩
@[simp] def sNever : Sx := fun _ _ => none
theorem sf_never {nw : Bool} : SF K nw tNever sNever := ⟨fun fr σ H ρ π R ρ' π' o e D q => by cases e⟩
@[simp] def sDrop (f : Ex) : Sx := fun ρ π => (f ρ π).map fun x => (ρ, x.2, .nx)
theorem sf_drop {nw : Bool} {t : TE} {f : Ex} (h : BF K t f) : SF K nw (tDrop t) (sDrop f) := by
  refine ⟨fun fr σ H ρ π R ρ' π' o e D q => ?_⟩
  unfold sDrop at e
  cases ef : f ρ π with
  | none => rw [ef] at e; cases e
  | some x =>
    rw [ef] at e
    cases e
    exact h.go fr σ H ρ π R x.1 x.2 ef _ fun v H' R' c b => q σ H' R' (c.step σ ρ)
@[simp] def sRet (f : Ex) : Sx := fun ρ π => (f ρ π).map fun x => (ρ, x.2, .rt x.1)
theorem sRet_some {f : Ex} {ρ : En} {π : Pot} {r : En × Pot × Out} (e : sRet f ρ π = some r) : ∃ d π', f ρ π = some (d, π') ∧ r = (ρ, π', .rt d) := by
  unfold sRet at e
  cases ef : f ρ π with
  | none => rw [ef] at e; cases e
  | some x => rw [ef] at e; cases e; exact ⟨x.1, x.2, rfl, rfl⟩
theorem sf_ret {t : TE} {f : Ex} (h : EF K t f) : SF K false (tRet t) (sRet f) := by
  refine ⟨fun fr σ H ρ π R ρ' π' o e D q => ?_⟩
  obtain ⟨d, π1, ef, e⟩ := sRet_some e
  cases e
  refine h.go fr σ H ρ π R d π' ef _ fun v H' R' c b => q v σ H' R' (c.step σ ρ) ?_
  exact b.weak fun a z => .inl z
theorem sf_retN {t : TE} {f : Ex} (h : NF K t f) : SF K true (tRet t) (sRet f) := by
  refine ⟨fun fr σ H ρ π R ρ' π' o e D q => ?_⟩
  obtain ⟨d, π1, ef, e⟩ := sRet_some e
  cases e
  refine h.go fr σ H ρ π R d π' ef _ fun v H' R' c b => q v σ H' R' (c.step σ ρ) ?_
  obtain ⟨p, xs, ds, e1, e2, e3, e4, e5, e6⟩ := b
  exact ⟨p, xs, ds, e1, e2, .inr e3, e4, fun z => e5 (.inl z), e6.weak fun a z => z.imp .inl id⟩
/-- the def's own list is handed back -/
@[simp] def sRetO (i : Nat) : Sx := fun ρ π => match ρ[i]? with
  | some (.own ds) => some (ρ, π, .rt (.list ds))
  | _ => none
theorem sf_retO {nw : Bool} (i : Nat) : SF K nw (tRet (tVar i)) (sRetO i) := by
  refine ⟨fun fr σ H ρ π R ρ' π' o e D q => ?_⟩
  unfold sRetO at e
  split at e
  · rename_i ds hs
    cases e
    obtain ⟨a, xs, ev, ea, dv⟩ := R.slot i _ hs
    have ow : IsOwn σ ρ a := ⟨i, _, hs, rfl, ev⟩
    refine ⟨_, ev, q _ σ H R (Step.refl _) ?_⟩
    have n0 := R.os a ow
    unfold RV
    split
    · exact ⟨a, xs, ds, rfl, rfl, .inl ow, ea, n0, dv.weak fun b z => by
        rcases z with z | z
        · exact .inl z
        · exact .inr (by rw [z]; exact ow)⟩
    · exact .lst ea n0 (dv.weak fun b z => .inl z)
  · cases e
@[simp] def sRet0 : Sx := fun ρ π => some (ρ, π, .rt .none)
theorem sf_ret0 : SF K false tRetN sRet0 := ⟨fun fr σ H ρ π R ρ' π' o e D q => by cases e; exact q _ σ H R (Step.refl _) (show Dv K H fr.S0 .non .none from .non)⟩
@[simp] def sIf (c : Tx) (g h : Sx) : Sx := fun ρ π => (c ρ π).bind fun x => if x.1 = true then g ρ x.2 else h ρ x.2
theorem sf_if {nw : Bool} {tc : TT} {t u : TS} {c : Tx} {g h : Sx} (hc : TF K tc c) (h1 : SF K nw t g) (h2 : SF K nw u h) : SF K nw (tIfS tc t u) (sIf c g h) := by
  refine ⟨fun fr σ H ρ π R ρ' π' o e D q => ?_⟩
  unfold sIf at e
  cases ec : c ρ π with
  | none => rw [ec] at e; cases e
  | some x =>
    rw [ec] at e
    simp only [Option.bind_some] at e
    refine hc.go fr σ H ρ π R x.1 x.2 ec _ fun H' R' cg => ?_
    by_cases z : x.1 = true
    · rw [if_pos z] at e ⊢
      exact h1.go fr σ H' ρ x.2 R' ρ' π' o e D (q.from R R' (cg.step σ ρ))
    · rw [if_neg z] at e ⊢
      exact h2.go fr σ H' ρ x.2 R' ρ' π' o e D (q.from R R' (cg.step σ ρ))
@[simp] def sAsg (f : Ex) (g : Gx) : Sx := fun ρ π => (f ρ π).bind fun x => (g x.1 ρ).map fun ρ' => (ρ', x.2, .nx)
theorem sf_asg {nw : Bool} {te : TE} {tg : TG} {f : Ex} {vs : List Nat} {g : Gx} (h : EF K te f) (hg : GF K false vs tg g) : SF K nw (tAsg te tg) (sAsg f g) := by
  refine ⟨fun fr σ H ρ π R ρ' π' o e D q => ?_⟩
  unfold sAsg at e
  cases ef : f ρ π with
  | none => rw [ef] at e; cases e
  | some x =>
    rw [ef] at e
    simp only [Option.bind_some] at e
    cases eg : g x.1 ρ with
    | none => rw [eg] at e; cases e
    | some y =>
      rw [eg] at e
      cases e
      refine h.go fr σ H ρ π R x.1 x.2 ef _ fun v H' R' c b => ?_
      exact hg.go fr σ H' ρ x.2 R' v x.1 (.inl b) ρ' eg _ fun σ' R2 s2 _ _ => q σ' H' R2 ((c.step σ ρ).trans R.us s2)
/-- a name gets a list of its own -/
theorem Rel.setOwn {fr : Fm} {σ : L2.St} {H H' : Hp} {ρ : En} {π π' : Pot} (R : Rel K fr σ H ρ π) (R' : Rel K fr σ H' ρ π') (c : ChgP fr H H') {i : Nat} {p : Addr} {xs : List V} {ds : List D}
    (h0 : H p = none) (h1 : H' p = some (.lst xs)) (h2 : DvA K H' (fun a => (wd fr σ ρ H').S a ∨ a = p) xs ds)
    (hscr : ∀ (j : Nat) (ns : List Int) (a : Addr), ρ[j]? = some (.scr ns) → σ[j]? = some (some (.ref a)) → a ≠ p) :
    Rel K fr (σ.set i (some (.ref p))) H' (ρ.set i (.own ds)) π' ∧ Step (wd fr σ ρ H) (wd fr (σ.set i (some (.ref p))) (ρ.set i (.own ds)) H') := by
  have ow : ∀ a, IsOwn (σ.set i (some (.ref p))) (ρ.set i (.own ds)) a → IsOwn σ ρ a ∨ a = p := by
    rintro a ⟨j, s, e, o, q⟩
    by_cases z : i = j
    · subst z
      rw [List.getElem?_set_self'] at q
      cases y : σ[i]? with
      | none => rw [y] at q; cases q
      | some w =>
        rw [y] at q
        have q2 : some (V.ref p) = some (V.ref a) := Option.some.inj q
        cases q2
        exact .inr rfl
    · rw [List.getElem?_set_ne z] at e q
      exact .inl ⟨j, s, e, o, q⟩
  have nown : ¬ IsOwn σ ρ p := fun z => R.ownSome z h0
  have st : Step (wd fr σ ρ H) (wd fr (σ.set i (some (.ref p))) (ρ.set i (.own ds)) H') := by
    refine ⟨fun b o n z => c b o (fun y => n (.inl y)) z, fun a z => ?_, fun a z => ?_⟩
    · rcases z with z | z
      · exact .inl (.inl z)
      · rcases ow a z with z | z
        · exact .inl (.inr z)
        · exact .inr (by rw [z]; exact h0)
    · rcases z with z | z
      · exact .inl (.inl z)
      · rcases ow a z with z | z
        · exact .inl (.inr z)
        · exact .inr (by rw [z]; exact h0)
  refine ⟨⟨by simp [R.len], fun j s e => ?_, fun j k s t a e1 e2 o1 o2 q1 q2 => ?_, R'.all, fun a h => ?_, fun a h => ?_⟩, st⟩
  · by_cases z : i = j
    · subst z
      have l : i < ρ.length := by
        have := (List.getElem?_eq_some_iff.mp e).1
        simpa using this
      rw [List.getElem?_set_self l] at e
      cases e
      refine ⟨p, xs, by rw [List.getElem?_set_self (by rw [R.len]; exact l)], h1, h2.weak fun a z => ?_⟩
      rcases z with z | z
      · exact .inl (.inl z)
      · exact (ow a z).imp .inr id
    · rw [List.getElem?_set_ne z] at e ⊢
      have sl := R.slot j s e
      have nu : ∀ a, (wd fr (σ.set i (some (.ref p))) (ρ.set i (.own ds)) H').U a → (wd fr σ ρ H).U a ∨ a = p := fun a z => by
        rcases z with z | z
        · exact .inl (.inl z)
        · exact (ow a z).imp .inr id
      cases s with
      | un => trivial
      | dat d => obtain ⟨v, e, q⟩ := sl; exact ⟨v, e, q.step R.us st⟩
      | arg es =>
        obtain ⟨a, ys, e, q, n, r⟩ := sl
        refine ⟨a, ys, e, st.keep _ _ n q, fun z => ?_, r.step R.us st⟩
        rcases nu a z with z | z
        · exact n z
        · rw [z] at q
          have q : H p = _ := q
          rw [h0] at q; cases q
      | own es =>
        obtain ⟨a, ys, e3, q, r⟩ := sl
        have np : fr.pt ≠ some a := fun z => (R.pt a z).2.1 ⟨j, _, e, rfl, e3⟩
        exact ⟨a, ys, e3, c _ _ np q, r.step R.us st⟩
      | dct kvs =>
        obtain ⟨a, ys, e3, q, m, r⟩ := sl
        have np : fr.pt ≠ some a := fun z => (R.pt a z).2.1 ⟨j, _, e, rfl, e3⟩
        exact ⟨a, ys, e3, c _ _ np q, m, r.step R.us st⟩
      | pot => exact sl
      | scr ns =>
        obtain ⟨a, e3, q, n⟩ := sl
        refine ⟨a, e3, ?_, fun z => ?_⟩
        · rcases q with (q | ⟨u, q⟩) | q
          · exact .inl (.inl (st.keep _ _ n q))
          · exact .inl (.inr ⟨u, st.keep _ _ n q⟩)
          · exact .inr q
        · rcases nu a z with z | z
          · exact n z
          · exact hscr j ns a e e3 z
  · by_cases d1 : i = j
    · by_cases d2 : i = k
      · rw [← d1, ← d2]
      · exfalso
        subst d1
        rw [List.getElem?_set_self'] at q1
        rw [List.getElem?_set_ne d2] at e2 q2
        cases y : σ[i]? with
        | none => rw [y] at q1; cases q1
        | some w =>
          rw [y] at q1
          have q3 : some (V.ref p) = some (V.ref a) := Option.some.inj q1
          cases q3
          exact nown ⟨k, t, e2, o2, q2⟩
    · by_cases d2 : i = k
      · exfalso
        subst d2
        rw [List.getElem?_set_self'] at q2
        rw [List.getElem?_set_ne d1] at e1 q1
        cases y : σ[i]? with
        | none => rw [y] at q2; cases q2
        | some w =>
          rw [y] at q2
          have q3 : some (V.ref p) = some (V.ref a) := Option.some.inj q2
          cases q3
          exact nown ⟨j, s, e1, o1, q1⟩
      · rw [List.getElem?_set_ne d1] at e1 q1
        rw [List.getElem?_set_ne d2] at e2 q2
        exact R.nd j k s t a e1 e2 o1 o2 q1 q2
  · obtain ⟨p1, p2, p3⟩ := R'.pt a h
    refine ⟨p1, fun z => ?_, p3⟩
    rcases ow a z with z | z
    · exact p2 z
    · rw [z] at p1
      exact R.all p p1 h0
  · rcases ow a h with z | z
    · exact R.os a z
    · rw [z]; exact fun y => R.all p y h0
def isScr : Slot → Bool
  | .scr _ => true
  | _ => false
/-- a def that reads the script makes no lists of its own -/
def hasScr (ρ : En) : Bool := ρ.any isScr
@[simp] theorem hasScr_nil : hasScr [] = false := rfl
@[simp] theorem hasScr_cons (s : Slot) (r : En) : hasScr (s :: r) = (isScr s || hasScr r) := rfl
@[simp] theorem isScr_un : isScr .un = false := rfl
@[simp] theorem isScr_dat (d : D) : isScr (.dat d) = false := rfl
@[simp] theorem isScr_arg (d : List D) : isScr (.arg d) = false := rfl
@[simp] theorem isScr_own (d : List D) : isScr (.own d) = false := rfl
@[simp] theorem isScr_pot : isScr .pot = false := rfl
theorem noScr {ρ : En} (h : hasScr ρ = false) {j : Nat} {ns : List Int} (e : ρ[j]? = some (.scr ns)) : False := by
  have := List.any_eq_false.mp h (.scr ns) (List.mem_of_getElem? e)
  simp [isScr] at this
@[simp] def oN (i : Nat) : Gx := fun d ρ => if hasScr ρ = true then none else match d with
  | .list ds => some (ρ.set i (.own ds))
  | _ => none
theorem sf_own {nw : Bool} {te : TE} {f : Ex} {i : Nat} (h : NF K te f) : SF K nw (tAsg te (gName i)) (sAsg f (oN i)) := by
  refine ⟨fun fr σ H ρ π R ρ' π' o e D q => ?_⟩
  unfold sAsg at e
  cases ef : f ρ π with
  | none => rw [ef] at e; cases e
  | some x =>
    rw [ef] at e
    simp only [Option.bind_some] at e
    cases eg : oN i x.1 ρ with
    | none => rw [eg] at e; cases e
    | some y =>
      rw [eg] at e
      cases e
      unfold oN at eg
      split at eg
      · cases eg
      · rename_i hs
        have hs : hasScr ρ = false := by simpa using hs
        refine h.go fr σ H ρ π R x.1 x.2 ef _ fun v H' R' c b => ?_
        obtain ⟨p, xs, ds, rfl, e2, h0, h1, _, h2⟩ := b
        rw [e2] at eg
        cases eg
        obtain ⟨R2, s2⟩ := R.setOwn R' c (i := i) h0 h1 h2 (fun j ns a e1 _ => (noScr hs e1).elim)
        exact q _ H' R2 s2
/-- from here on the list is data, and is not changed any more -/
@[simp] def frz (i : Nat) (ρ : En) : En := match ρ[i]? with
  | some (.own ds) => ρ.set i (.dat (.list ds))
  | _ => ρ
theorem Rel.freeze {fr : Fm} {σ : L2.St} {H : Hp} {ρ : En} {π : Pot} (R : Rel K fr σ H ρ π) (i : Nat) : Rel K fr σ H (frz i ρ) π ∧ Step (wd fr σ ρ H) (wd fr σ (frz i ρ) H) ∧ ∀ a, IsOwn σ (frz i ρ) a → IsOwn σ ρ a := by
  unfold frz
  split
  · rename_i ds hs
    have l : i < ρ.length := (List.getElem?_eq_some_iff.mp hs).1
    obtain ⟨a0, xs, ev, ea, dv⟩ := R.slot i _ hs
    have ow : ∀ a, IsOwn σ (ρ.set i (.dat (.list ds))) a → IsOwn σ ρ a ∧ a ≠ a0 := by
      rintro a ⟨j, s, e, o, q⟩
      by_cases z : i = j
      · subst z
        rw [List.getElem?_set_self l] at e
        cases e; cases o
      · rw [List.getElem?_set_ne z] at e
        refine ⟨⟨j, s, e, o, q⟩, fun y => z ?_⟩
        subst y
        exact R.nd i j _ s a hs e rfl o ev q
    have st : Step (wd fr σ ρ H) (wd fr σ (ρ.set i (.dat (.list ds))) H) := ⟨fun _ _ _ h => h, fun a h => .inl (h.imp id fun z => (ow a z).1), fun a h => .inl (h.imp id fun z => (ow a z).1)⟩
    refine ⟨⟨by simp [R.len], fun j s e => ?_, fun j k s t a e1 e2 o1 o2 q1 q2 => ?_, R.all, fun a h => ⟨(R.pt a h).1, fun z => (R.pt a h).2.1 (ow a z).1, (R.pt a h).2.2⟩, fun a h => R.os a (ow a h).1⟩, st, fun a z => (ow a z).1⟩
    · by_cases z : i = j
      · subst z
        rw [List.getElem?_set_self l] at e
        cases e
        refine ⟨_, ev, .lst ea ?_ (dv.step R.us st)⟩
        rintro (y | y)
        · exact R.os a0 ⟨i, _, hs, rfl, ev⟩ y
        · exact (ow a0 y).2 rfl
      · rw [List.getElem?_set_ne z] at e
        exact (R.slot j s e).stepP R.us st (fun a h => h.imp id fun z => (ow a z).1) fun _ _ _ _ h => h
    · have d1 : i ≠ j := fun c => by
        subst c
        rw [List.getElem?_set_self l] at e1; cases e1; cases o1
      have d2 : i ≠ k := fun c => by
        subst c
        rw [List.getElem?_set_self l] at e2; cases e2; cases o2
      rw [List.getElem?_set_ne d1] at e1
      rw [List.getElem?_set_ne d2] at e2
      exact R.nd j k s t a e1 e2 o1 o2 q1 q2
  · exact ⟨R, Step.refl _, fun _ h => h⟩
theorem sf_frz {nw : Bool} {t : TS} {g : Sx} (i : Nat) (h : SF K nw t g) : SF K nw t (fun ρ π => g (frz i ρ) π) := by
  refine ⟨fun fr σ H ρ π R ρ' π' o e D q => ?_⟩
  obtain ⟨R1, s1, _⟩ := R.freeze i
  exact h.go fr σ H (frz i ρ) π R1 ρ' π' o e D (q.from R R1 s1)
/-- a, b = x, y -/
@[simp] def sPar (i j : Nat) (a : Ax) : Sx := fun ρ π => (a ρ π).bind fun x => match x.1 with
  | [d, e] => some ((ρ.set i (.dat d)).set j (.dat e), x.2, .nx)
  | _ => none
theorem sf_par {nw : Bool} {i j : Nat} {t : TA} {a : Ax} (h : AF K t a) : SF K nw (tPar i j t) (sPar i j a) := by
  refine ⟨fun fr σ H ρ π R ρ' π' o e D q => ?_⟩
  unfold sPar at e
  cases ea : a ρ π with
  | none => rw [ea] at e; cases e
  | some x =>
    obtain ⟨ds, π1⟩ := x
    rw [ea] at e
    simp only [Option.bind_some] at e
    split at e
    · rename_i d1 d2
      cases e
      refine h.go fr σ H ρ π R _ π' ea _ fun vs H' R' c b => ?_
      cases b with
      | cons b1 b2 =>
        cases b2 with
        | cons b3 b4 =>
          cases b4
          obtain ⟨R1, s1⟩ := R'.set (i := i) b1
          obtain ⟨R2, s2⟩ := R1.set (i := j) (b3.step R'.us s1)
          exact ⟨_, _, rfl, q _ H' R2 ((c.step σ ρ).trans R.us (s1.trans R'.us s2))⟩
    · cases e
@[simp] def sPar3 (i j l : Nat) (a : Ax) : Sx := fun ρ π => (a ρ π).bind fun x => match x.1 with
  | [d, e, f] => some (((ρ.set i (.dat d)).set j (.dat e)).set l (.dat f), x.2, .nx)
  | _ => none
theorem sf_par3 {nw : Bool} {i j l : Nat} {t : TA} {a : Ax} (h : AF K t a) : SF K nw (tPar3 i j l t) (sPar3 i j l a) := by
  refine ⟨fun fr σ H ρ π R ρ' π' o e D q => ?_⟩
  unfold sPar3 at e
  cases ea : a ρ π with
  | none => rw [ea] at e; cases e
  | some x =>
    obtain ⟨ds, π1⟩ := x
    rw [ea] at e
    simp only [Option.bind_some] at e
    split at e
    · rename_i d1 d2 d3
      cases e
      refine h.go fr σ H ρ π R _ π' ea _ fun vs H' R' c b => ?_
      cases b with
      | cons b1 b2 =>
        cases b2 with
        | cons b3 b4 =>
          cases b4 with
          | cons b5 b6 =>
            cases b6
            obtain ⟨R1, s1⟩ := R'.set (i := i) b1
            obtain ⟨R2, s2⟩ := R1.set (i := j) (b3.step R'.us s1)
            obtain ⟨R3, s3⟩ := R2.set (i := l) ((b5.step R'.us s1).step R1.us s2)
            exact ⟨_, _, _, rfl, q _ H' R3 ((c.step σ ρ).trans R.us (s1.trans R'.us (s2.trans R1.us s3)))⟩
    · cases e
/-- x += e of data -/
@[simp] def sAug (i : Nat) (F : F2) (f : Ex) : Sx := fun ρ π => match ρ[i]? with
  | some (.dat x) => (f ρ π).bind fun y => (F x y.1).map fun z => (ρ.set i (.dat z), y.2, .nx)
  | _ => none
theorem sf_aug {nw : Bool} {i : Nat} {te : TE} {r : TIp} {F : F2} {f : Ex} (hF : OF K r F) (h : BF K te f) : SF K nw (tAug i te r) (sAug i F f) := by
  refine ⟨fun fr σ H ρ π R ρ' π' o e D q => ?_⟩
  unfold sAug at e
  split at e
  · rename_i x hx
    obtain ⟨v, ev, dv⟩ := R.slot i _ hx
    cases ef : f ρ π with
    | none => rw [ef] at e; cases e
    | some y =>
      rw [ef] at e
      simp only [Option.bind_some] at e
      cases ez : F x y.1 with
      | none => rw [ez] at e; cases e
      | some z =>
        rw [ez] at e
        cases e
        refine ⟨v, ev, ?_⟩
        refine h.go fr σ H ρ π R y.1 y.2 ef _ fun w H1 R1 c1 b => ?_
        refine hF.go fr H1 _ R1.sA v w x y.1 (.inl (dv.step R.us (c1.step σ ρ))) b z ez _ fun u H2 k2 dz => ?_
        obtain ⟨R3, s3⟩ := (R1.kp k2).set (i := i) dz
        exact q _ H2 R3 (((c1.trans (.of k2)).step σ ρ).trans R.us s3)
  · cases e
theorem of_ip_add : OF K (ipI fun i j => i + j) (intF fTrue fun i j => .int (i + j)) := ⟨fun fr H S al x y dx dy hx hy d e Q q => by
    obtain ⟨i, j, rfl, rfl, c, rfl⟩ := intF_some e
    obtain rfl := hx.int
    obtain rfl := hy.int
    exact ⟨i, j, rfl, rfl, q _ H (Kp.refl _) (.int _)⟩⟩
theorem of_ip_sub : OF K (ipI fun i j => i - j) subF := ⟨fun fr H S al x y dx dy hx hy d e Q q => by
    obtain ⟨i, j, rfl, rfl, c, rfl⟩ := intF_some e
    obtain rfl := hx.int
    obtain rfl := hy.int
    exact ⟨i, j, rfl, rfl, q _ H (Kp.refl _) (.int _)⟩⟩
@[simp] def addI : F2 := intF fTrue fun i j => .int (i + j)
/-! ### an own list changes -/
theorem Rel.put {fr : Fm} {σ : L2.St} {H : Hp} {ρ : En} {π : Pot} (R : Rel K fr σ H ρ π) {i : Nat} {s s' : Slot} {a : Addr} {o : HO} (hs : ρ[i]? = some s) (so : s.isOwn = true) (so' : s'.isOwn = true) (ev : σ[i]? = some (some (.ref a)))
    (new : SlotOk K fr (wd fr σ ρ (upd H a o)) σ[i]? s') : Rel K fr σ (upd H a o) (ρ.set i s') π ∧ Step (wd fr σ ρ H) (wd fr σ (ρ.set i s') (upd H a o)) := by
  have l : i < ρ.length := (List.getElem?_eq_some_iff.mp hs).1
  have oa : IsOwn σ ρ a := ⟨i, s, hs, so, ev⟩
  have ow : ∀ b, IsOwn σ (ρ.set i s') b → IsOwn σ ρ b := by
    rintro b ⟨j, t, e, ot, q⟩
    by_cases z : i = j
    · subst z
      rw [ev] at q
      cases q
      exact oa
    · rw [List.getElem?_set_ne z] at e
      exact ⟨j, t, e, ot, q⟩
  have st : Step (wd fr σ ρ H) (wd fr σ (ρ.set i s') (upd H a o)) :=
    ⟨fun b u n z => by show upd H a o b = _; rw [upd_ne (fun y => n (.inr (by rw [y]; exact oa)))]; exact z, fun b h => .inl (h.imp id (ow b)), fun b h => .inl (h.imp id (ow b))⟩
  refine ⟨⟨by simp [R.len], fun j t e => ?_, fun j k t u b e1 e2 o1 o2 q1 q2 => ?_, fun b h => ?_, fun b h => ?_, fun b h => R.os b (ow b h)⟩, st⟩
  · by_cases z : i = j
    · subst z
      rw [List.getElem?_set_self l] at e
      cases e
      have st2 : Step (wd fr σ ρ (upd H a o)) (wd fr σ (ρ.set i s') (upd H a o)) := ⟨fun _ _ _ z => z, fun b h => .inl (h.imp id (ow b)), fun b h => .inl (h.imp id (ow b))⟩
      exact SlotOk.stepP (A := wd fr σ ρ (upd H a o)) (B := wd fr σ (ρ.set i s') (upd H a o)) R.us st2 (fun b h => h.imp id (ow b)) (fun _ _ _ _ h => h) new
    · rw [List.getElem?_set_ne z] at e
      refine (R.slot j t e).stepP R.us st (fun b h => h.imp id (ow b)) fun ot b u e2 q => ?_
      show L2.upd H a o b = _
      rw [upd_ne (fun y => z ?_)]
      · exact q
      · subst y
        exact R.nd i j s t b hs e so ot ev e2
  · have own1 : ∀ (j : Nat) (t : Slot), (ρ.set i s')[j]? = some t → t.isOwn = true → ∃ w, ρ[j]? = some w ∧ w.isOwn = true := fun j t e ot => by
      by_cases z : i = j
      · subst z; exact ⟨s, hs, so⟩
      · rw [List.getElem?_set_ne z] at e; exact ⟨t, e, ot⟩
    obtain ⟨w1, f1, g1⟩ := own1 j t e1 o1
    obtain ⟨w2, f2, g2⟩ := own1 k u e2 o2
    exact R.nd j k w1 w2 b f1 f2 g1 g2 q1 q2
  · intro z
    by_cases y : b = a
    · rw [y] at h; exact R.os a oa h
    · rw [upd_ne y] at z; exact R.all b h z
  · obtain ⟨p1, p2, p3⟩ := R.pt b h
    refine ⟨p1, fun z => p2 (ow b z), ?_⟩
    rw [upd_ne (fun y => p2 (by rw [y]; exact oa))]
    exact p3
/-- xs.append(e) -/
@[simp] def sApp (i : Nat) (f : Ex) : Sx := fun ρ π => (f ρ π).bind fun y => match ρ[i]? with
  | some (.own ds) => if ds.length < 100000 then some (ρ.set i (.own (ds ++ [y.1])), y.2, .nx) else none
  | _ => none
theorem sf_app {nw : Bool} {i : Nat} {te : TE} {f : Ex} (h : EF K te f) : SF K nw (tDrop (tBM K "list" rAppend (tVar i) (tCons te tNil))) (sApp i f) := by
  refine ⟨fun fr σ H ρ π R ρ' π' o e D q => ?_⟩
  unfold sApp at e
  cases ef : f ρ π with
  | none => rw [ef] at e; cases e
  | some y =>
    rw [ef] at e
    simp only [Option.bind_some] at e
    split at e
    · rename_i ds hs
      split at e
      · rename_i ln
        cases e
        obtain ⟨a, xs, ev, ea, dv⟩ := R.slot i _ hs
        refine ⟨_, ev, .inl ⟨rfl, xs, sqL ea⟩, ?_⟩
        refine h.go fr σ H ρ π R y.1 y.2 ef _ fun v H1 R1 c1 b => ?_
        obtain ⟨a', xs', ev', ea', dv'⟩ := R1.slot i _ hs
        rw [ev] at ev'
        cases ev'
        have oa : IsOwn σ ρ a := ⟨i, _, hs, rfl, ev⟩
        refine ⟨a, xs', v, rfl, rfl, ea', szLt (by rw [dv'.length]; exact ln), ?_⟩
        have upq : Step ⟨fun b => b = a, (wd fr σ ρ H1).S, H1⟩ ⟨fun b => b = a, (wd fr σ ρ H1).S, upd H1 a (.lst (xs' ++ [v]))⟩ :=
          ⟨fun b u n z => by show L2.upd H1 a _ b = _; rw [upd_ne n]; exact z, fun b z => .inl z, fun b z => .inl z⟩
        have us2 : ∀ b, b = a → (wd fr σ ρ H1).S b := fun b z => .inr (by rw [z]; exact oa)
        obtain ⟨R2, s2⟩ := R1.put (o := .lst (xs' ++ [v])) (s' := .own (ds ++ [y.1])) hs rfl rfl ev ⟨a, xs' ++ [v], ev, upd_same, (dv'.append (.cons b .nil)).step (A := ⟨fun b => b = a, (wd fr σ ρ H1).S, H1⟩) us2 upq⟩
        exact q σ _ R2 ((c1.step σ ρ).trans R.us s2)
      · cases e
    · cases e
/-- xs[i] = e -/
@[simp] def sSet (i : Nat) (f g : Ex) : Sx := fun ρ π => (f ρ π).bind fun y => (g ρ y.2).bind fun z => match ρ[i]?, z.1 with
  | some (.own ds), .int k => (ixN ds.length k).map fun j => (ρ.set i (.own (ds.set j y.1)), z.2, .nx)
  | _, _ => none
theorem sf_set {nw : Bool} {i : Nat} {te ti : TE} {f g : Ex} (h : EF K te f) (hg : BF K ti g) : SF K nw (tAsg te (gSub (tVar i) ti rSetL)) (sSet i f g) := by
  refine ⟨fun fr σ H ρ π R ρ' π' o e D q => ?_⟩
  unfold sSet at e
  cases ef : f ρ π with
  | none => rw [ef] at e; cases e
  | some y =>
    rw [ef] at e
    simp only [Option.bind_some] at e
    cases eg : g ρ y.2 with
    | none => rw [eg] at e; cases e
    | some z =>
      rw [eg] at e
      simp only [Option.bind_some] at e
      split at e
      · rename_i ds k hs hk
        cases ej : ixN ds.length k with
        | none => rw [ej] at e; cases e
        | some j =>
          rw [ej] at e
          cases e
          refine h.go fr σ H ρ π R y.1 y.2 ef _ fun v H1 R1 c1 b => ?_
          obtain ⟨a, xs, ev, ea, dv⟩ := R1.slot i _ hs
          refine ⟨_, ev, ?_⟩
          refine hg.go fr σ H1 ρ y.2 R1 z.1 z.2 eg _ fun w H2 R2 c2 b2 => ?_
          rw [hk] at b2
          obtain rfl := b2.int
          obtain ⟨a', xs', ev', ea', dv'⟩ := R2.slot i _ hs
          rw [ev] at ev'
          cases ev'
          have oa : IsOwn σ ρ a := ⟨i, _, hs, rfl, ev⟩
          refine ⟨a, xs', k, j, rfl, rfl, ea', by rw [dv'.length]; exact ej, ?_⟩
          have upq : Step ⟨fun b => b = a, (wd fr σ ρ H2).S, H2⟩ ⟨fun b => b = a, (wd fr σ ρ H2).S, upd H2 a (.lst (xs'.set j v))⟩ :=
            ⟨fun b u n z => by show L2.upd H2 a _ b = _; rw [upd_ne n]; exact z, fun b z => .inl z, fun b z => .inl z⟩
          have us2 : ∀ b, b = a → (wd fr σ ρ H2).S b := fun b z => .inr (by rw [z]; exact oa)
          obtain ⟨R3, s3⟩ := R2.put (o := .lst (xs'.set j v)) (s' := .own (ds.set j y.1)) hs rfl rfl ev ⟨a, xs'.set j v, ev, upd_same, (dv'.set (b.step R1.us (c2.step σ ρ)) j).step (A := ⟨fun b => b = a, (wd fr σ ρ H2).S, H2⟩) us2 upq⟩
          exact q σ _ R3 (((c1.trans c2).step σ ρ).trans R.us s3)
      · cases e
end FL

noncomputable section
namespace FL
open PySem PySem.Spec PyProof.Rows L2 EP
variable {K : PySem.W.Frag}
/-! ### loops -/
@[simp] def forGo (tg : Gx) (b : Sx) : List D → Sx
  | [], ρ, π => some (ρ, π, .nx)
  | d :: r, ρ, π => (tg d ρ).bind fun ρ1 => (b ρ1 π).bind fun x => match x.2.2 with
    | .nx => forGo tg b r x.1 x.2.1
    | .ct => forGo tg b r x.1 x.2.1
    | .bk => some (x.1, x.2.1, .nx)
    | .rt d => some (x.1, x.2.1, .rt d)
@[simp] def sFor (it : Ax) (tg : Gx) (b : Sx) : Sx := fun ρ π => (it ρ π).bind fun x => forGo tg b x.1 ρ x.2
theorem sf_for {nw w : Bool} {wi : TI} {it : Ax} {g : TG} {vs : List Nat} {tg : Gx} {t : TS} {b : Sx} (hi : IF K w wi it) (hg : GF K w vs g tg) (hb : SF K nw t b) : SF K nw (tFor wi g t) (sFor it tg b) := by
  refine ⟨fun fr σ H ρ π R ρ' π' o e D q => ?_⟩
  unfold sFor at e
  cases ei : it ρ π with
  | none => rw [ei] at e; cases e
  | some x =>
    obtain ⟨ds, π1⟩ := x
    rw [ei] at e
    simp only [Option.bind_some] at e
    refine hi.go fr σ H ρ π R ds π1 ei _ fun J P H1 R1 c1 ok p1 => ?_
    have s01 := c1.step σ ρ
    refine ⟨fun i m σ2 H2 => m = ds.length - i ∧ i ≤ ds.length ∧ ∃ ρ2 π2, Rel K fr σ2 H2 ρ2 π2 ∧ Step (wd fr σ ρ H1) (wd fr σ2 ρ2 H2) ∧ forGo tg b (ds.drop i) ρ2 π2 = some (ρ', π', o),
      ⟨ds.length, by omega, Nat.zero_le _, ρ, π1, R1, Step.refl _, e⟩, ?_⟩
    rintro i m σ2 H2 ⟨rfl, il, ρ2, π2, R2, s2, e2⟩
    have P2 := ok.st _ _ R1.us p1 s2
    by_cases c : i < ds.length
    · right
      obtain ⟨d, ed, edr⟩ := drop_at c
      rw [edr] at e2
      obtain ⟨go, yl⟩ := ok.go i d _ R2.sA P2 ed
      refine ⟨go, fun σ3 H3 => ∃ ρ3 π3, Rel K fr σ3 H3 ρ3 π3 ∧ Step (wd fr σ ρ H1) (wd fr σ3 ρ3 H3) ∧ forGo tg b (ds.drop (i + 1)) ρ3 π3 = some (ρ', π', o),
        fun σ3 H3 ⟨ρ3, π3, h3⟩ => ⟨ds.length - (i + 1), by omega, rfl, by omega, ρ3, π3, h3⟩, ?_⟩
      intro y H3 hy
      obtain ⟨k3, dy⟩ := yl y H3 hy
      have R3 := R2.kp k3
      have s3 := s2.trans R1.us ((ChgP.of k3).step σ2 ρ2)
      unfold forGo at e2
      cases et : tg d ρ2 with
      | none => rw [et] at e2; cases e2
      | some ρ4 =>
        rw [et] at e2
        simp only [Option.bind_some] at e2
        refine hg.go fr σ2 H3 ρ2 π2 R3 y d dy ρ4 et _ fun σ4 R4 s4 _ _ => ?_
        have s14 := s3.trans R1.us s4
        cases eb : b ρ4 π2 with
        | none => rw [eb] at e2; cases e2
        | some z =>
          obtain ⟨ρ5, π5, o5⟩ := z
          rw [eb] at e2
          simp only [Option.bind_some] at e2
          refine hb.go fr σ4 H3 ρ4 π2 R4 ρ5 π5 o5 eb _ ?_
          cases o5 with
          | nx => exact fun σ6 H6 R6 s6 => ⟨ρ5, π5, R6, s14.trans R1.us s6, e2⟩
          | ct => exact fun σ6 H6 R6 s6 => ⟨ρ5, π5, R6, s14.trans R1.us s6, e2⟩
          | bk =>
            cases e2
            exact fun σ6 H6 R6 s6 => q σ6 H6 R6 (s01.trans R.us (s14.trans R1.us s6))
          | rt r =>
            cases e2
            exact fun v σ6 H6 R6 s6 rv => q v σ6 H6 R6 (s01.trans R.us (s14.trans R1.us s6)) (rv.trans R4 (s01.trans R.us s14))
    · left
      have ie : i = ds.length := by omega
      rw [ie, List.drop_length] at e2
      unfold forGo at e2
      cases e2
      exact ⟨ok.stop i _ P2 (by omega), q σ2 H2 R2 (s01.trans R.us s2)⟩
/-- the loop by turns, n at most -/
def whGo (c : Tx) (b : Sx) : Nat → Sx
  | 0, _, _ => none
  | n + 1, ρ, π => (c ρ π).bind fun k => if k.1 = true then (b ρ k.2).bind fun x => match x.2.2 with
      | .nx => whGo c b n x.1 x.2.1
      | .ct => whGo c b n x.1 x.2.1
      | .bk => some (x.1, x.2.1, .nx)
      | .rt d => some (x.1, x.2.1, .rt d)
    else some (ρ, k.2, .nx)
theorem sf_while {nw : Bool} {tc : TT} {t : TS} {c : Tx} {b : Sx} (n : Nat) (hc : TF K tc c) (hb : SF K nw t b) : SF K nw (tWhile tc t) (whGo c b n) := by
  refine ⟨fun fr σ H ρ π R ρ' π' o e D q => ?_⟩
  refine ⟨fun m σ2 H2 => ∃ ρ2 π2, Rel K fr σ2 H2 ρ2 π2 ∧ Step (wd fr σ ρ H) (wd fr σ2 ρ2 H2) ∧ whGo c b m ρ2 π2 = some (ρ', π', o), ⟨n, ρ, π, R, Step.refl _, e⟩, ?_⟩
  rintro m σ2 H2 ⟨ρ2, π2, R2, s2, e2⟩
  cases m with
  | zero => cases e2
  | succ m =>
    unfold whGo at e2
    cases ec : c ρ2 π2 with
    | none => rw [ec] at e2; cases e2
    | some k =>
      rw [ec] at e2
      simp only [Option.bind_some] at e2
      refine hc.go fr σ2 H2 ρ2 π2 R2 k.1 k.2 ec _ fun H3 R3 c3 => ?_
      have s3 := s2.trans R.us (c3.step σ2 ρ2)
      by_cases z : k.1 = true
      · rw [if_pos z] at e2 ⊢
        refine ⟨fun σ4 H4 => ∃ ρ2 π2, Rel K fr σ4 H4 ρ2 π2 ∧ Step (wd fr σ ρ H) (wd fr σ4 ρ2 H4) ∧ whGo c b m ρ2 π2 = some (ρ', π', o), fun σ4 H4 h4 => ⟨m, Nat.lt_succ_self m, h4⟩, ?_⟩
        cases eb : b ρ2 k.2 with
        | none => rw [eb] at e2; cases e2
        | some y =>
          obtain ⟨ρ5, π5, o5⟩ := y
          rw [eb] at e2
          simp only [Option.bind_some] at e2
          refine hb.go fr σ2 H3 ρ2 k.2 R3 ρ5 π5 o5 eb _ ?_
          cases o5 with
          | nx => exact fun σ6 H6 R6 s6 => ⟨ρ5, π5, R6, s3.trans R.us s6, e2⟩
          | ct => exact fun σ6 H6 R6 s6 => ⟨ρ5, π5, R6, s3.trans R.us s6, e2⟩
          | bk =>
            cases e2
            exact fun σ6 H6 R6 s6 => q σ6 H6 R6 (s3.trans R.us s6)
          | rt r =>
            cases e2
            exact fun v σ6 H6 R6 s6 rv => q v σ6 H6 R6 (s3.trans R.us s6) (rv.trans R3 s3)
      · rw [if_neg z] at e2 ⊢
        cases e2
        exact q σ2 H3 R3 s3
/-- how many turns at most: more than any loop of ours makes -/
@[simp] def sWhile (c : Tx) (b : Sx) : Sx := whGo c b 10000000
/-! ### defs -/
/-- an argument: strict, or a list that is read alone -/
def ArgA (K : PySem.W.Frag) (fr : Fm) (H : Hp) (S : Addr → Prop) : List Bool → List V → List D → Prop
  | [], [], [] => True
  | k :: ks, v :: vs, d :: ds => (if k = true then Db K fr H S v d else Dv K H S v d) ∧ ArgA K fr H S ks vs ds
  | _, _, _ => False
@[simp] def slotOf (k : Bool) (d : D) : Slot := if k = true then (match d with
  | .list ds => .arg ds
  | d => .dat d) else .dat d
@[simp] def initE : List Bool → List D → Nat → En
  | k :: ks, d :: ds, n => slotOf k d :: initE ks ds n
  | _, _, n => List.replicate n .un
@[simp] def outOf : Option (En × Pot × Out) → Option (D × Pot)
  | some (_, π, .rt d) => some (d, π)
  | some (_, π, .nx) => some (.none, π)
  | _ => none
/-- a def without a pot -/
@[simp] def runF (n : Nat) (ks : List Bool) (b : Sx) : List D → Option D := fun ds => if ds.length = ks.length then (outOf (b (initE ks ds n) [])).map (·.1) else none
/-- a def whose first parameter is the pot -/
@[simp] def runP (n : Nat) (ks : List Bool) (b : Sx) : Pot → List D → Option (D × Pot) := fun π ds => if ds.length = ks.length then outOf (b (.pot :: initE ks ds n) π) else none
def SpF (K : PySem.W.Frag) (nw : Bool) (ks : List Bool) (F : List D → Option D) : Sp := fun vs H Q _ => ∃ (S : Addr → Prop) (pt : Option Addr) (ds : List D) (d : D), (∀ a, S a → H a ≠ none) ∧ (∀ a, pt = some a → S a) ∧ ArgA K ⟨S, pt⟩ H S ks vs ds ∧ F ds = some d ∧
  ∀ v H', Kp H H' → (if nw = true then Dn K H H' S v d else Dv K H' S v d) → Q v H'
def SpP (K : PySem.W.Frag) (nw : Bool) (ks : List Bool) (F : Pot → List D → Option (D × Pot)) : Sp := fun vs H Q _ => ∃ (S : Addr → Prop) (a : Addr) (ws : List V) (π : Pot) (ds : List D) (d : D) (π' : Pot), vs = .ref a :: ws ∧ (∀ a, S a → H a ≠ none) ∧ S a ∧
  H a = some (.lst (π.map V.int)) ∧ ArgA K ⟨S, some a⟩ H S ks ws ds ∧ F π ds = some (d, π') ∧
  ∀ v H', Bt a H H' → H' a = some (.lst (π'.map V.int)) → (if nw = true then Dn K H H' S v d else Dv K H' S v d) → Q v H'
theorem ArgA.len {fr : Fm} {H : Hp} {S : Addr → Prop} : ∀ {ks : List Bool} {vs : List V} {ds : List D}, ArgA K fr H S ks vs ds → vs.length = ks.length ∧ ds.length = ks.length
  | [], [], [], _ => ⟨rfl, rfl⟩
  | k :: ks, v :: vs, d :: ds, h => by
    obtain ⟨a, b⟩ := ArgA.len h.2
    exact ⟨congrArg (· + 1) a, congrArg (· + 1) b⟩
theorem initE_len : ∀ {ks : List Bool} {ds : List D} {n : Nat}, ds.length = ks.length → (initE ks ds n).length = ks.length + n
  | [], [], n, _ => by simp [initE]
  | k :: ks, d :: ds, n, h => by
    have h2 : ds.length = ks.length := by simpa using h
    show (initE ks ds n).length + 1 = ks.length + 1 + n
    rw [initE_len h2]; omega
theorem slotOf_own (k : Bool) (d : D) : (slotOf k d).isOwn = false := by
  unfold slotOf
  split
  · split <;> rfl
  · rfl
theorem initE_own : ∀ {ks : List Bool} {ds : List D} {n i : Nat} {s : Slot}, (initE ks ds n)[i]? = some s → s.isOwn = false
  | k :: ks, d :: ds, n, 0, s, h => by
    have h2 : some (slotOf k d) = some s := h
    cases h2
    exact slotOf_own k d
  | k :: ks, d :: ds, n, i + 1, s, h => initE_own (ks := ks) (ds := ds) (n := n) (i := i) h
  | [], ds, n, i, s, h => by
    have h2 : (List.replicate n Slot.un)[i]? = some s := by simpa [initE] using h
    obtain ⟨_, e⟩ := List.getElem?_eq_some_iff.mp h2
    simp at e
    rw [← e]; rfl
  | k :: ks, [], n, i, s, h => by
    have h2 : (List.replicate n Slot.un)[i]? = some s := by simpa [initE] using h
    obtain ⟨_, e⟩ := List.getElem?_eq_some_iff.mp h2
    simp at e
    rw [← e]; rfl
theorem initE_slot {fr : Fm} {A : Wd} (hU : ∀ a, A.U a ↔ fr.pt = some a) (hS : ∀ a, fr.pt = some a → A.S a) : ∀ {ks : List Bool} {vs : List V} {ds : List D} {n m i : Nat} {s : Slot}, ArgA K fr A.H A.S ks vs ds → (initE ks ds n)[i]? = some s →
    SlotOk K fr A (vs.map some ++ List.replicate m none)[i]? s
  | [], [], [], n, m, i, s, _, h => by
    have h2 : (List.replicate n Slot.un)[i]? = some s := by simpa [initE] using h
    obtain ⟨_, e⟩ := List.getElem?_eq_some_iff.mp h2
    simp at e
    rw [← e]; trivial
  | k :: ks, v :: vs, d :: ds, n, m, 0, s, h, e => by
    have e2 : some (slotOf k d) = some s := e
    cases e2
    obtain ⟨h1, _⟩ := h
    show SlotOk K fr A (some (some v)) _
    unfold slotOf
    by_cases c : k = true
    · rw [if_pos c] at h1 ⊢
      split
      · rename_i es
        rcases h1 with h1 | ⟨a, xs, ds', e1, e2, e3, e4, e5⟩
        · cases h1 with
          | lst e n r => exact ⟨_, _, rfl, e, fun z => n (hS _ ((hU _).mp z)), r⟩
        · cases e3
          exact ⟨a, xs, by rw [e1], e4, fun z => e2 ((hU _).mp z), e5⟩
      · rename_i n1
        exact ⟨v, rfl, h1.flat fun ds z => n1 ds z⟩
    · rw [if_neg c] at h1 ⊢
      exact ⟨v, rfl, h1⟩
  | k :: ks, v :: vs, d :: ds, n, m, i + 1, s, h, e => initE_slot hU hS (ks := ks) (vs := vs) (ds := ds) (n := n) (m := m) (i := i) h.2 e
theorem outOf_some {x : Option (En × Pot × Out)} {d : D} {π : Pot} (h : outOf x = some (d, π)) : (∃ ρ, x = some (ρ, π, .rt d)) ∨ ∃ ρ, x = some (ρ, π, .nx) ∧ d = .none := by
  unfold outOf at h
  split at h
  · cases h; exact .inl ⟨_, rfl⟩
  · cases h; exact .inr ⟨_, rfl, rfl⟩
  · cases h
theorem start_len {N : List Str} {vs : List V} (h : vs.length ≤ N.length) : (start N vs).length = N.length := by
  unfold L2.start
  rw [List.length_append, List.length_map, List.length_replicate]; omega
/-- from the body's function to the def's promise -/
theorem SF.spF {nw : Bool} {N : List Str} {ks : List Bool} {n : Nat} {t : TS} {b : Sx} (h : SF K nw t b) (hn : N.length = ks.length + n) {vs : List V} {H : Hp} {Q : VK} {E : XK}
    (p : SpF K nw ks (runF n ks b) vs H Q E) (z : nw = true → ∀ ρ π ρ' π', b ρ π = some (ρ', π', .nx) → False) : t { nx := fun _ H' => Q .non H', rt := Q } (start N vs) H := by
  obtain ⟨S, pt, ds, d, al, pS, ar, e, q⟩ := p
  have ln := ar.len
  unfold runF at e
  rw [if_pos ln.2] at e
  cases eo : outOf (b (initE ks ds n) []) with
  | none => rw [eo] at e; cases e
  | some x =>
    rw [eo] at e
    have e1 : x.1 = d := by simpa using e
    obtain ⟨d1, π1⟩ := x
    subst e1
    have noOwn : ∀ a, ¬ IsOwn (start N vs) (initE ks ds n) a := by
      rintro a ⟨i, s, e1, e2, _⟩
      rw [initE_own e1] at e2; cases e2
    have ar2 : ArgA K ⟨S, none⟩ H S ks vs ds := by
      have : ∀ (ks : List Bool) (vs : List V) (ds : List D), ArgA K ⟨S, pt⟩ H S ks vs ds → ArgA K ⟨S, none⟩ H S ks vs ds := by
        intro ks
        induction ks with
        | nil => intro vs ds h; cases vs <;> cases ds <;> first | trivial | exact h.elim
        | cons k ks ih =>
          intro vs ds h
          cases vs with
          | nil => cases ds <;> exact h.elim
          | cons v vs =>
            cases ds with
            | nil => exact h.elim
            | cons d ds =>
              refine ⟨?_, ih vs ds h.2⟩
              have h1 := h.1
              split
              · rename_i c
                rw [if_pos c] at h1
                rcases h1 with h1 | ⟨a, xs, es, e1, e2, e3⟩
                · exact .inl h1
                · exact .inr ⟨a, xs, es, e1, (by intro z; cases z), e3⟩
              · rename_i c
                rw [if_neg c] at h1
                exact h1
      exact this ks vs ds ar
    have hS : ∀ a, (wd ⟨S, none⟩ (start N vs) (initE ks ds n) H).S a ↔ S a := fun a => ⟨fun y => y.elim id fun w => (noOwn a w).elim, .inl⟩
    have R : Rel K ⟨S, none⟩ (start N vs) H (initE ks ds n) [] := by
      refine ⟨by rw [start_len (by omega), initE_len ln.2, hn], fun i s e => ?_, fun i j s t a e1 e2 o1 => (by rw [initE_own e1] at o1; cases o1), al, fun a y => (by cases y), fun a y => (noOwn a y).elim⟩
      refine initE_slot (fr := ⟨S, none⟩) (A := wd ⟨S, none⟩ (start N vs) (initE ks ds n) H) (fun a => ⟨fun y => y.elim id fun w => (noOwn a w).elim, .inl⟩) (fun a y => by cases y) ?_ e
      have e3 : (wd ⟨S, none⟩ (start N vs) (initE ks ds n) H).S = S := funext fun a => propext (hS a)
      rw [e3]
      exact ar2
    have fin : ∀ (v : V) (σ' : L2.St) (H' : Hp) (ρ' : En), Rel K ⟨S, none⟩ σ' H' ρ' π1 → Step (wd ⟨S, none⟩ (start N vs) (initE ks ds n) H) (wd ⟨S, none⟩ σ' ρ' H') → RV K nw ⟨S, none⟩ (IsOwn (start N vs) (initE ks ds n)) H v d1 H' → Q v H' := by
      intro v σ' H' ρ' R' s' rv
      refine q v H' (fun a o y => s'.keep a o (fun w => w.elim (fun w => by cases w) (noOwn a)) y) ?_
      unfold RV at rv
      split at rv
      · rename_i c
        rw [if_pos c]
        obtain ⟨p, xs, es, e1, e2, e3, e4, e5, e6⟩ := rv
        exact ⟨p, xs, es, e1, e2, e3.elim (fun w => (noOwn p w).elim) id, e4, e5, e6⟩
      · rename_i c
        rw [if_neg c]
        exact rv
    rcases outOf_some eo with ⟨ρ', e2⟩ | ⟨ρ', e2, e3⟩
    · exact h.go ⟨S, none⟩ _ H _ [] R ρ' π1 _ e2 _ fun v σ' H' R' s' rv => fin v σ' H' ρ' R' s' rv
    · refine h.go ⟨S, none⟩ _ H _ [] R ρ' π1 _ e2 _ fun σ' H' R' s' => fin .non σ' H' ρ' R' s' ?_
      have e3 : d1 = .none := e3
      subst e3
      unfold RV
      split
      · rename_i c
        exact (z c _ _ _ _ e2).elim
      · exact .non
theorem SF.spP {nw : Bool} {N : List Str} {ks : List Bool} {n : Nat} {t : TS} {b : Sx} (h : SF K nw t b) (hn : N.length = ks.length + n + 1) {vs : List V} {H : Hp} {Q : VK} {E : XK}
    (p : SpP K nw ks (runP n ks b) vs H Q E) (z : nw = true → ∀ ρ π ρ' π', b ρ π = some (ρ', π', .nx) → False) : t { nx := fun _ H' => Q .non H', rt := Q } (start N vs) H := by
  obtain ⟨S, a0, ws, π, ds, d1, π1, rfl, al, Sa, ea, ar, e, q⟩ := p
  have ln := ar.len
  unfold runP at e
  rw [if_pos ln.2] at e
  have noOwn : ∀ a, ¬ IsOwn (start N (.ref a0 :: ws)) (.pot :: initE ks ds n) a := by
    rintro a ⟨i, s, e1, e2, _⟩
    cases i with
    | zero => cases e1; cases e2
    | succ i => rw [initE_own e1] at e2; cases e2
  have hS : ∀ a, (wd ⟨S, some a0⟩ (start N (.ref a0 :: ws)) (.pot :: initE ks ds n) H).S a ↔ S a := fun a => ⟨fun y => y.elim id fun w => (noOwn a w).elim, .inl⟩
  have e3 : (wd ⟨S, some a0⟩ (start N (.ref a0 :: ws)) (.pot :: initE ks ds n) H).S = S := funext fun a => propext (hS a)
  have R : Rel K ⟨S, some a0⟩ (start N (.ref a0 :: ws)) H (.pot :: initE ks ds n) π := by
    refine ⟨?_, fun i s e => ?_, fun i j s t a e1 e2 o1 => ?_, al, fun a y => ?_, fun a y => (noOwn a y).elim⟩
    · rw [start_len (by simp; omega)]
      show N.length = (initE ks ds n).length + 1
      rw [initE_len ln.2, hn]
    · cases i with
      | zero => cases e; exact ⟨a0, rfl, rfl⟩
      | succ i =>
        have := initE_slot (K := K) (fr := ⟨S, some a0⟩) (A := wd ⟨S, some a0⟩ (start N (.ref a0 :: ws)) (.pot :: initE ks ds n) H) (m := N.length - (ws.length + 1)) (fun a => ⟨fun y => y.elim id fun w => (noOwn a w).elim, .inl⟩) (fun a y => by cases y; exact .inl Sa) (by rw [e3]; exact ar) e
        exact this
    · cases i with
      | zero => cases e1; cases o1
      | succ i => rw [initE_own e1] at o1; cases o1
    · cases y
      exact ⟨Sa, noOwn _, ea⟩
  have fin : ∀ (v : V) (σ' : L2.St) (H' : Hp) (ρ' : En), Rel K ⟨S, some a0⟩ σ' H' ρ' π1 → Step (wd ⟨S, some a0⟩ (start N (.ref a0 :: ws)) (.pot :: initE ks ds n) H) (wd ⟨S, some a0⟩ σ' ρ' H') → RV K nw ⟨S, some a0⟩ (IsOwn (start N (.ref a0 :: ws)) (.pot :: initE ks ds n)) H v d1 H' → Q v H' := by
    intro v σ' H' ρ' R' s' rv
    refine q v H' (fun b o nb y => s'.keep b o (fun w => w.elim (fun w => nb (Option.some.inj w).symm) (noOwn b)) y) (R'.pt a0 rfl).2.2 ?_
    unfold RV at rv
    split at rv
    · rename_i c
      rw [if_pos c]
      obtain ⟨p, xs, es, e1, e2, e3, e4, e5, e6⟩ := rv
      exact ⟨p, xs, es, e1, e2, e3.elim (fun w => (noOwn p w).elim) id, e4, e5, e6⟩
    · rename_i c
      rw [if_neg c]
      exact rv
  rcases outOf_some e with ⟨ρ', e2⟩ | ⟨ρ', e2, e4⟩
  · exact h.go ⟨S, some a0⟩ _ H _ π R ρ' π1 _ e2 _ fun v σ' H' R' s' rv => fin v σ' H' ρ' R' s' rv
  · refine h.go ⟨S, some a0⟩ _ H _ π R ρ' π1 _ e2 _ fun σ' H' R' s' => fin .non σ' H' ρ' R' s' ?_
    have e4 : d1 = .none := e4
    subst e4
    unfold RV
    split
    · rename_i c
      exact (z c _ _ _ _ e2).elim
    · exact .non
/-! ### calls -/
structure GA (K : PySem.W.Frag) (ks : List Bool) (t : TA) (f : Ax) : Prop where
  go : ∀ (fr : Fm) (σ : L2.St) (H : Hp) (ρ : En) (π : Pot), Rel K fr σ H ρ π → ∀ ds π', f ρ π = some (ds, π') → ∀ Q : List V → Hp → Prop,
    (∀ vs H', Rel K fr σ H' ρ π' → ChgP fr H H' → ArgA K fr H' (wd fr σ ρ H').S ks vs ds → Q vs H') → t σ H Q
theorem ga_nil : GA K [] tNil aNil := ⟨fun fr σ H ρ π R d π' e Q q => by cases e; exact q _ H R (.refl _ _) trivial⟩
theorem ga_loose {ks : List Bool} {ta : TE} {tr : TA} {a : Ex} {r : Ax} (h : BF K ta a) (h2 : GA K ks tr r) : GA K (true :: ks) (tCons ta tr) (aCons a r) := by
  refine ⟨fun fr σ H ρ π R ds π' e Q q => ?_⟩
  obtain ⟨d, π1, es, ea, er, rfl⟩ := aCons_some e
  refine h.go fr σ H ρ π R d π1 ea _ fun v H1 R1 c1 dv => ?_
  exact h2.go fr σ H1 ρ π1 R1 es π' er _ fun vs H2 R2 c2 rv => q _ H2 R2 (c1.trans c2) ⟨by rw [if_pos rfl]; exact dv.chg R1 c2, rv⟩
theorem ga_strict {ks : List Bool} {ta : TE} {tr : TA} {a : Ex} {r : Ax} (h : EF K ta a) (h2 : GA K ks tr r) : GA K (false :: ks) (tCons ta tr) (aCons a r) := by
  refine ⟨fun fr σ H ρ π R ds π' e Q q => ?_⟩
  obtain ⟨d, π1, es, ea, er, rfl⟩ := aCons_some e
  refine h.go fr σ H ρ π R d π1 ea _ fun v H1 R1 c1 dv => ?_
  exact h2.go fr σ H1 ρ π1 R1 es π' er _ fun vs H2 R2 c2 rv => q _ H2 R2 (c1.trans c2) ⟨by rw [if_neg (by decide)]; exact dv.step R1.us (c2.step σ ρ), rv⟩
theorem Rel.ptS {fr : Fm} {σ : L2.St} {H : Hp} {ρ : En} {π : Pot} (R : Rel K fr σ H ρ π) : ∀ a, fr.pt = some a → (wd fr σ ρ H).S a := fun a h => .inl (R.pt a h).1
theorem ArgA.fr {fr fr' : Fm} (hp : fr'.pt = fr.pt) {H : Hp} {S : Addr → Prop} : ∀ {ks : List Bool} {vs : List V} {ds : List D}, ArgA K fr H S ks vs ds → ArgA K fr' H S ks vs ds
  | [], [], [], _ => trivial
  | k :: ks, v :: vs, d :: ds, h => by
    refine ⟨?_, ArgA.fr hp h.2⟩
    have h1 := h.1
    split
    · rename_i c
      rw [if_pos c] at h1
      rcases h1 with h1 | ⟨a, xs, es, e1, e2, e3⟩
      · exact .inl h1
      · exact .inr ⟨a, xs, es, e1, by rw [hp]; exact e2, e3⟩
    · rename_i c
      rw [if_neg c] at h1
      exact h1
theorem ef_call {ks : List Bool} {F : List D → Option D} {t : TA} {a : Ax} {E : XK} (h : GA K ks t a) : EF K (tCall (SpF K false ks F) [] E t) (xCb F a) := by
  refine ⟨fun fr σ H ρ π R d π' e Q q => ?_⟩
  obtain ⟨ds, ea, ed⟩ := xCb_some e
  refine h.go fr σ H ρ π R ds π' ea _ fun vs H1 R1 c1 av => ?_
  rw [List.append_nil]
  refine ⟨(wd fr σ ρ H1).S, fr.pt, ds, d, R1.sA, R1.ptS, ArgA.fr (fr := fr) (fr' := ⟨(wd fr σ ρ H1).S, fr.pt⟩) rfl av, ed, fun v H2 k2 dv => ?_⟩
  rw [if_neg (by decide)] at dv
  exact q v H2 (R1.kp k2) (c1.trans (.of k2)) dv
theorem nf_call {ks : List Bool} {F : List D → Option D} {t : TA} {a : Ax} {E : XK} (h : GA K ks t a) : NF K (tCall (SpF K true ks F) [] E t) (xCb F a) := by
  refine ⟨fun fr σ H ρ π R d π' e Q q => ?_⟩
  obtain ⟨ds, ea, ed⟩ := xCb_some e
  refine h.go fr σ H ρ π R ds π' ea _ fun vs H1 R1 c1 av => ?_
  rw [List.append_nil]
  refine ⟨(wd fr σ ρ H1).S, fr.pt, ds, d, R1.sA, R1.ptS, ArgA.fr (fr := fr) (fr' := ⟨(wd fr σ ρ H1).S, fr.pt⟩) rfl av, ed, fun v H2 k2 dv => ?_⟩
  rw [if_pos rfl] at dv
  exact q v H2 (R1.kp k2) (c1.trans (.of k2)) (dv.back fun p z => R1.back c1 z)
/-- f(pot, ..) -/
@[simp] def xCallP (i : Nat) (F : Pot → List D → Option (D × Pot)) (a : Ax) : Ex := fun ρ π => match ρ[i]? with
  | some .pot => (a ρ π).bind fun x => F x.2 x.1
  | _ => none
theorem potCall {nw : Bool} {ks : List Bool} {F : Pot → List D → Option (D × Pot)} {t : TA} {a : Ax} {E : XK} {i : Nat} (h : GA K ks t a) (fr : Fm) (σ : L2.St) (H : Hp) (ρ : En) (π : Pot) (R : Rel K fr σ H ρ π) (d : D) (π' : Pot)
    (e : xCallP i F a ρ π = some (d, π')) (Q : VK) (q : ∀ v H', Rel K fr σ H' ρ π' → ChgP fr H H' → (if nw = true then Dn K H H' (wd fr σ ρ H').S v d else Dv K H' (wd fr σ ρ H').S v d) → Q v H') : tCall (SpP K nw ks F) [] E (tCons (tVar i) t) σ H Q := by
  unfold xCallP at e
  split at e
  · rename_i hs
    cases ea : a ρ π with
    | none => rw [ea] at e; cases e
    | some x =>
      rw [ea] at e
      simp only [Option.bind_some] at e
      obtain ⟨a0, ev, ep⟩ := R.slot i _ hs
      refine ⟨_, ev, ?_⟩
      refine h.go fr σ H ρ π R x.1 x.2 ea _ fun vs H1 R1 c1 av => ?_
      show SpP K nw ks F ((V.ref a0 :: vs) ++ []) H1 Q E
      rw [List.append_nil]
      obtain ⟨p1, p2, p3⟩ := R1.pt a0 ep
      refine ⟨(wd fr σ ρ H1).S, a0, vs, x.2, x.1, d, π', rfl, R1.sA, .inl p1, p3, av.fr (fr' := ⟨(wd fr σ ρ H1).S, some a0⟩) ep.symm, e, fun v H2 b2 e2 dv => ?_⟩
      have c2 : ChgP fr H1 H2 := fun b o n z => b2 b o (fun w => n (by rw [w]; exact ep)) z
      have R2 : Rel K fr σ H2 ρ π' := R1.chg c2 fun b z => by
        rw [ep] at z; cases z; exact e2
      refine q v H2 R2 (c1.trans c2) ?_
      split
      · rename_i c
        rw [if_pos c] at dv
        exact dv.back fun p z => R1.back c1 z
      · rename_i c
        rw [if_neg c] at dv
        exact dv
  · cases e
theorem ef_callP {ks : List Bool} {F : Pot → List D → Option (D × Pot)} {t : TA} {a : Ax} {E : XK} {i : Nat} (h : GA K ks t a) : EF K (tCall (SpP K false ks F) [] E (tCons (tVar i) t)) (xCallP i F a) := by
  refine ⟨fun fr σ H ρ π R d π' e Q q => ?_⟩
  refine potCall (nw := false) h fr σ H ρ π R d π' e Q fun v H' R' c dv => ?_
  rw [if_neg (by decide)] at dv
  exact q v H' R' c dv
theorem nf_callP {ks : List Bool} {F : Pot → List D → Option (D × Pot)} {t : TA} {a : Ax} {E : XK} {i : Nat} (h : GA K ks t a) : NF K (tCall (SpP K true ks F) [] E (tCons (tVar i) t)) (xCallP i F a) := by
  refine ⟨fun fr σ H ρ π R d π' e Q q => ?_⟩
  refine potCall (nw := true) h fr σ H ρ π R d π' e Q fun v H' R' c dv => ?_
  rw [if_pos rfl] at dv
  exact q v H' R' c dv
/-- f(a=.., b=..): the values in the parameters' order -/
@[simp] def xCallK (F : List D → Option D) (g : List D → List D → List D) (a b : Ax) : Ex := fun ρ π => (a ρ π).bind fun x => (b ρ x.2).bind fun y => (F (g x.1 y.1)).map fun d => (d, y.2)
theorem kwCall {nw : Bool} {ks k1 k2 : List Bool} {F : List D → Option D} {t u : TA} {a b : Ax} {E : XK} {gV : List V → List V → List V} {g : List D → List D → List D} (h : GA K k1 t a) (h2 : GA K k2 u b)
    (hg : ∀ fr H S vs ws ds es, ArgA K fr H S k1 vs ds → ArgA K fr H S k2 ws es → ArgA K fr H S ks (gV vs ws) (g ds es)) (fr : Fm) (σ : L2.St) (H : Hp) (ρ : En) (π : Pot) (R : Rel K fr σ H ρ π) (d : D) (π' : Pot)
    (e : xCallK F g a b ρ π = some (d, π')) (Q : VK) (q : ∀ v H', Rel K fr σ H' ρ π' → ChgP fr H H' → (if nw = true then Dn K H H' (wd fr σ ρ H').S v d else Dv K H' (wd fr σ ρ H').S v d) → Q v H') : tCallK (SpF K nw ks F) gV E t u σ H Q := by
  unfold xCallK at e
  cases ea : a ρ π with
  | none => rw [ea] at e; cases e
  | some x =>
    rw [ea] at e
    simp only [Option.bind_some] at e
    cases eb : b ρ x.2 with
    | none => rw [eb] at e; cases e
    | some y =>
      rw [eb] at e
      simp only [Option.bind_some] at e
      cases ed : F (g x.1 y.1) with
      | none => rw [ed] at e; cases e
      | some z =>
        rw [ed] at e
        cases e
        refine h.go fr σ H ρ π R x.1 x.2 ea _ fun vs H1 R1 c1 av => ?_
        refine h2.go fr σ H1 ρ x.2 R1 y.1 y.2 eb _ fun ws H2 R2 c2 aw => ?_
        have av2 : ArgA K fr H2 (wd fr σ ρ H2).S k1 vs x.1 := by
          have : ∀ (ks : List Bool) (vs : List V) (ds : List D), ArgA K fr H1 (wd fr σ ρ H1).S ks vs ds → ArgA K fr H2 (wd fr σ ρ H2).S ks vs ds := by
            intro ks
            induction ks with
            | nil => intro vs ds h; cases vs <;> cases ds <;> first | trivial | exact h.elim
            | cons k ks ih =>
              intro vs ds h
              cases vs with
              | nil => cases ds <;> exact h.elim
              | cons v vs =>
                cases ds with
                | nil => exact h.elim
                | cons d ds =>
                  refine ⟨?_, ih vs ds h.2⟩
                  have h1 := h.1
                  split
                  · rename_i c
                    rw [if_pos c] at h1
                    exact h1.chg R1 c2
                  · rename_i c
                    rw [if_neg c] at h1
                    exact h1.step R1.us (c2.step σ ρ)
          exact this _ _ _ av
        refine ⟨(wd fr σ ρ H2).S, fr.pt, g x.1 y.1, d, R2.sA, R2.ptS, ArgA.fr (fr := fr) (fr' := ⟨(wd fr σ ρ H2).S, fr.pt⟩) rfl (hg fr H2 _ vs ws x.1 y.1 av2 aw), ed, fun v H3 k3 dv => ?_⟩
        refine q v H3 (R2.kp k3) (c1.trans (c2.trans (.of k3))) ?_
        split
        · rename_i c
          rw [if_pos c] at dv
          exact dv.back fun p z => R1.back c1 (R2.back c2 z)
        · rename_i c
          rw [if_neg c] at dv
          exact dv
theorem ef_callK {ks k1 k2 : List Bool} {F : List D → Option D} {t u : TA} {a b : Ax} {E : XK} {gV : List V → List V → List V} {g : List D → List D → List D} (h : GA K k1 t a) (h2 : GA K k2 u b)
    (hg : ∀ fr H S vs ws ds es, ArgA K fr H S k1 vs ds → ArgA K fr H S k2 ws es → ArgA K fr H S ks (gV vs ws) (g ds es)) : EF K (tCallK (SpF K false ks F) gV E t u) (xCallK F g a b) := by
  refine ⟨fun fr σ H ρ π R d π' e Q q => ?_⟩
  refine kwCall (nw := false) h h2 hg fr σ H ρ π R d π' e Q fun v H' R' c dv => ?_
  rw [if_neg (by decide)] at dv
  exact q v H' R' c dv
theorem nf_callK {ks k1 k2 : List Bool} {F : List D → Option D} {t u : TA} {a b : Ax} {E : XK} {gV : List V → List V → List V} {g : List D → List D → List D} (h : GA K k1 t a) (h2 : GA K k2 u b)
    (hg : ∀ fr H S vs ws ds es, ArgA K fr H S k1 vs ds → ArgA K fr H S k2 ws es → ArgA K fr H S ks (gV vs ws) (g ds es)) : NF K (tCallK (SpF K true ks F) gV E t u) (xCallK F g a b) := by
  refine ⟨fun fr σ H ρ π R d π' e Q q => ?_⟩
  refine kwCall (nw := true) h h2 hg fr σ H ρ π R d π' e Q fun v H' R' c dv => ?_
  rw [if_pos rfl] at dv
  exact q v H' R' c dv
end FL

noncomputable section
namespace FL
open PySem PySem.Spec PyProof.Rows L2 EP
variable {K : PySem.W.Frag}
/-! ### x *= e, x //= e, x %= e -/
theorem iop_mulX {X : Cx} : OpR X (inplaceOp .Mult) (rI CMulW fun i j => .int (i * j)) := opI fun _ _ _ _ _ _ _ hc q => imul_int q hc.ok
theorem iop_fdivX {X : Cx} : OpR X (inplaceOp .FloorDiv) (rI CDivX fun i j => .int (i.fdiv j)) := opI fun i j _ _ _ _ _ hc q => by
  refine ifloordiv_int hc.1 q (.inl (PyProof.noPylong_of_log2 ?_))
  have := log2Lt (show 0 < 8000 by decide) hc.2
  omega
theorem iop_modX {X : Cx} : OpR X (inplaceOp .Mod) (rI (fun _ j => j ≠ 0) fun i j => .int (i.fmod j)) := opI fun _ _ _ _ _ _ _ hc q => imod_int hc q
@[simp] def mulI : F2 := intF mulOk fun i j => .int (i * j)
theorem of_mulI : OF K (rI CMulW fun i j => .int (i * j)) mulI := of_int (fun i j h => by
  have c2 : i.natAbs.log2 + j.natAbs.log2 < 1000000 := of_cdec h
  exact c2) (fun _ _ _ => rfl)
/-! ### xs.extend(ys), xs += ys -/
theorem Rel.ext {fr : Fm} {σ : L2.St} {H : Hp} {ρ : En} {π : Pot} (R : Rel K fr σ H ρ π) {i : Nat} {ds es : List D} {a : Addr} {xs ys : List V} (hs : ρ[i]? = some (.own ds)) (ev : σ[i]? = some (some (.ref a))) (dv : DvA K H (wd fr σ ρ H).S xs ds) (dw : DvA K H (wd fr σ ρ H).S ys es) :
    Rel K fr σ (upd H a (.lst (xs ++ ys))) (ρ.set i (.own (ds ++ es))) π ∧ Step (wd fr σ ρ H) (wd fr σ (ρ.set i (.own (ds ++ es))) (upd H a (.lst (xs ++ ys)))) := by
  have oa : IsOwn σ ρ a := ⟨i, _, hs, rfl, ev⟩
  have upq : Step ⟨fun b => b = a, (wd fr σ ρ H).S, H⟩ ⟨fun b => b = a, (wd fr σ ρ H).S, upd H a (.lst (xs ++ ys))⟩ :=
    ⟨fun b u n z => by show L2.upd H a _ b = _; rw [upd_ne n]; exact z, fun b z => .inl z, fun b z => .inl z⟩
  have us2 : ∀ b, b = a → (wd fr σ ρ H).S b := fun b z => .inr (by rw [z]; exact oa)
  exact R.put hs rfl rfl ev ⟨a, xs ++ ys, ev, upd_same, (dv.append dw).step (A := ⟨fun b => b = a, (wd fr σ ρ H).S, H⟩) us2 upq⟩
@[simp] def sExt (i : Nat) (f : Ex) : Sx := fun ρ π => (f ρ π).bind fun y => match ρ[i]?, y.1 with
  | some (.own ds), .list es => if ds.length + es.length ≤ 100000 then some (ρ.set i (.own (ds ++ es)), y.2, .nx) else none
  | _, _ => none
theorem sf_ext {nw : Bool} {i : Nat} {te : TE} {f : Ex} (h : NF K te f) : SF K nw (tDrop (tBM K "list" rExtend (tVar i) (tCons te tNil))) (sExt i f) := by
  refine ⟨fun fr σ H ρ π R ρ' π' o e D q => ?_⟩
  unfold sExt at e
  cases ef : f ρ π with
  | none => rw [ef] at e; cases e
  | some y =>
    rw [ef] at e
    simp only [Option.bind_some] at e
    split at e
    · rename_i ds es hs hy
      split at e
      · rename_i ln
        cases e
        obtain ⟨a, xs, ev, ea, dv⟩ := R.slot i _ hs
        refine ⟨_, ev, .inl ⟨rfl, xs, sqL ea⟩, ?_⟩
        refine h.go fr σ H ρ π R y.1 y.2 ef _ fun v H1 R1 c1 b => ?_
        rw [hy] at b
        obtain ⟨p, ys, es', rfl, e2, _, e4, _, e6⟩ := b
        cases e2
        obtain ⟨a', xs', ev', ea', dv'⟩ := R1.slot i _ hs
        rw [ev] at ev'
        cases ev'
        have dw := e6.weak (S' := (wd fr σ ρ H1).S) fun a z => .inl z
        refine ⟨a, p, xs', ys, rfl, rfl, ea', e4, by rw [dv'.length, dw.length]; exact szOk ln, ?_⟩
        obtain ⟨R2, s2⟩ := R1.ext hs ev dv' dw
        exact q σ _ R2 ((c1.step σ ρ).trans R.us s2)
      · cases e
    · cases e
/-- xs += [..] -/
theorem sf_augx {nw : Bool} {i : Nat} {te : TE} {f : Ex} (h : NF K te f) : SF K nw (tAug i te rExt2) (sExt i f) := by
  refine ⟨fun fr σ H ρ π R ρ' π' o e D q => ?_⟩
  unfold sExt at e
  cases ef : f ρ π with
  | none => rw [ef] at e; cases e
  | some y =>
    rw [ef] at e
    simp only [Option.bind_some] at e
    split at e
    · rename_i ds es hs hy
      split at e
      · rename_i ln
        cases e
        obtain ⟨a, xs, ev, ea, dv⟩ := R.slot i _ hs
        refine ⟨_, ev, ?_⟩
        refine h.go fr σ H ρ π R y.1 y.2 ef _ fun v H1 R1 c1 b => ?_
        rw [hy] at b
        obtain ⟨p, ys, es', rfl, e2, _, e4, _, e6⟩ := b
        cases e2
        obtain ⟨a', xs', ev', ea', dv'⟩ := R1.slot i _ hs
        rw [ev] at ev'
        cases ev'
        have dw := e6.weak (S' := (wd fr σ ρ H1).S) fun a z => .inl z
        refine ⟨a, p, xs', ys, rfl, rfl, ea', e4, by rw [dv'.length, dw.length]; exact szOk ln, ?_⟩
        obtain ⟨R2, s2⟩ := R1.ext hs ev dv' dw
        have l : i < σ.length := (List.getElem?_eq_some_iff.mp ev).1
        have es : σ.set i (some (.ref a)) = σ := by
          refine List.ext_getElem? fun j => ?_
          by_cases z : i = j
          · subst z; rw [List.getElem?_set_self l, ev]
          · rw [List.getElem?_set_ne z]
        rw [es]
        exact q σ _ R2 ((c1.step σ ρ).trans R.us s2)
      · cases e
    · cases e
/-! ### a body that never falls through -/
def NN (b : Sx) : Prop := ∀ ρ π ρ' π', b ρ π = some (ρ', π', .nx) → False
theorem nn_never : NN sNever := fun _ _ _ _ e => by cases e
theorem nn_ret {f : Ex} : NN (sRet f) := fun ρ π ρ' π' e => by
  obtain ⟨d, π1, _, e2⟩ := sRet_some e
  cases e2
theorem nn_retO {i : Nat} : NN (sRetO i) := fun ρ π ρ' π' e => by
  unfold sRetO at e
  split at e <;> cases e
theorem nn_seq {g h : Sx} (n : NN h) : NN (sSeq g h) := fun ρ π ρ' π' e => by
  unfold sSeq at e
  cases eg : g ρ π with
  | none => rw [eg] at e; cases e
  | some x =>
    obtain ⟨ρ1, π1, o1⟩ := x
    rw [eg] at e
    cases o1 with
    | nx => exact n _ _ _ _ e
    | bk => cases e
    | ct => cases e
    | rt d => cases e
theorem nn_if {c : Tx} {g h : Sx} (n : NN g) (n2 : NN h) : NN (sIf c g h) := fun ρ π ρ' π' e => by
  unfold sIf at e
  cases ec : c ρ π with
  | none => rw [ec] at e; cases e
  | some x =>
    rw [ec] at e
    simp only [Option.bind_some] at e
    split at e
    · exact n _ _ _ _ e
    · exact n2 _ _ _ _ e
theorem nn_frz {g : Sx} {i : Nat} (n : NN g) : NN (fun ρ π => g (frz i ρ) π) := fun ρ π ρ' π' e => n _ _ _ _ e
end FL

noncomputable section
namespace FL
open PySem PySem.Spec PyProof.Rows L2 EP
variable {K : PySem.W.Frag}
/-! ### {} as data; repr -/
/-- the dict that comes is locked for good -/
def tFrzD (t : TE) : TE := fun σ H Q => t σ H fun v H1 => ∃ (a : Addr) (ks : List (Key × V)), v = .ref a ∧ H1 a = some (.dK ks) ∧ ∀ o, Q v (upd H1 a (.frz o (.dK ks)))
theorem pe_frzD {X : Cx} {e : Expr} {t : TE} (h : PE X e t) : PE X e (tFrzD t) := by
  refine ⟨fun pins s σ H Q I w => thn (h.run pins s σ H _ I w) fun u s1 q => ?_⟩
  obtain ⟨v, H1, I1, r, a, ks, rfl, ea, q⟩ := q
  obtain ⟨o, I2⟩ := I1.lock ea trivial
  exact ⟨_, _, I2, r, q o⟩
theorem upN2 {H : Hp} {p : Addr} {a b : HO} (h : H p = none) : Kp H (upd (upd H p a) p b) := by
  rw [upd_upd]; exact upN h
theorem ef_dnew : EF K (tFrzD tDNewK) (xC (.dict [])) := ⟨fun fr σ H ρ π R d π' e Q q => by
  cases e
  intro p hp
  refine ⟨p, [], rfl, upd_same, fun o => ?_⟩
  have k := upN2 (a := .dK []) (b := .frz o (.dK [])) hp
  exact q _ _ (R.kp k) (.of k) (.dct upd_same (fun z => R.sA p z hp) rfl .nil)⟩
mutual
/-- data that can be written out in bounds -/
def okE : Nat → D → Bool
  | _, .none => true
  | _, .bool _ => true
  | _, .int i => decide (i.natAbs.log2 < 1900)
  | _, .str s => decide ((PyData.str s).shown.length ≤ 2002)
  | 0, _ => false
  | f + 1, .list xs => okEAll f xs
  | f + 1, .tuple xs => okEAll f xs
  | _, _ => false
def okEAll : Nat → List D → Bool
  | _, [] => true
  | f, x :: xs => okE f x && okEAll f xs
end
mutual
theorem okE_le : ∀ (f : Nat) (d : D), okE f d = true → d.shown.length + 2 ≤ 2004 * nodes d ∧ d.showable = true ∧ d.hasDict = false ∧ d.depth ≤ f
  | f, .none, _ => ⟨by decide, rfl, rfl, Nat.zero_le _⟩
  | f, .bool b, _ => ⟨by cases b <;> decide, rfl, rfl, Nat.zero_le _⟩
  | f, .int i, h => by
    have h1 : i.natAbs.log2 < 1900 := by simpa [okE] using h
    have h2 := intTextLe h1
    refine ⟨?_, ?_, rfl, Nat.zero_le _⟩
    · show (Str.ofString (toString i)).length + 2 ≤ 2004 * 1
      omega
    · show decide (i.natAbs.log2 < 1920) = true
      exact decide_eq_true (by omega)
  | f, .str s, h => by
    have h1 : (PyData.str s).shown.length ≤ 2002 := by simpa [okE] using h
    refine ⟨?_, rfl, rfl, Nat.zero_le _⟩
    show (PyData.str s).shown.length + 2 ≤ 2004 * 1
    omega
  | 0, .list _, h => by simp [okE] at h
  | 0, .tuple _, h => by simp [okE] at h
  | 0, .dict _, h => by simp [okE] at h
  | f + 1, .dict _, h => by simp [okE] at h
  | f + 1, .list xs, h => by
    have h1 : okEAll f xs = true := by simpa [okE] using h
    obtain ⟨a, b, c, e⟩ := okEAll_le f xs h1
    have h3 := listTextLe (PyData.shownAll xs)
    refine ⟨?_, b, c, ?_⟩
    · show (listText (PyData.shownAll xs)).length + 2 ≤ 2004 * (nodesAll xs + 1)
      omega
    · show PyData.depthAll xs + 1 ≤ f + 1
      omega
  | f + 1, .tuple xs, h => by
    have h1 : okEAll f xs = true := by simpa [okE] using h
    obtain ⟨a, b, c, e⟩ := okEAll_le f xs h1
    have h3 := fmt_text (PyData.shownAll xs)
    refine ⟨?_, b, c, ?_⟩
    · show (tupleText (PyData.shownAll xs)).length + 2 ≤ 2004 * (nodesAll xs + 1)
      omega
    · show PyData.depthAll xs + 1 ≤ f + 1
      omega
theorem okEAll_le : ∀ (f : Nat) (xs : List D), okEAll f xs = true → piled (PyData.shownAll xs) ≤ 2004 * nodesAll xs ∧ PyData.showableAll xs = true ∧ PyData.hasDictAll xs = false ∧ PyData.depthAll xs ≤ f
  | f, [], _ => ⟨by decide, rfl, rfl, Nat.zero_le _⟩
  | f, x :: xs, h => by
    have h1 : okE f x = true ∧ okEAll f xs = true := by simpa [okEAll] using h
    obtain ⟨a, b, c, e⟩ := okE_le f x h1.1
    obtain ⟨a2, b2, c2, e2⟩ := okEAll_le f xs h1.2
    refine ⟨?_, ?_, ?_, ?_⟩
    · show piled (PyData.shown x :: PyData.shownAll xs) ≤ 2004 * (nodes x + nodesAll xs)
      rw [piledC]
      omega
    · show (PyData.showable x && PyData.showableAll xs) = true
      rw [b, b2]; rfl
    · show (PyData.hasDict x || PyData.hasDictAll xs) = false
      rw [c, c2]; rfl
    · show max (PyData.depth x) (PyData.depthAll xs) ≤ f
      omega
end
/-- what Dv asks of a value, ahead of its being read as data of the kit: no dicts -/
def noD : D → Bool
  | .dict _ => false
  | _ => true
mutual
theorem Dv.dp' {H : Hp} {S : Addr → Prop} : ∀ {d : D} {v : V}, d.hasDict = false → Dv K H S v d → Dp K H v d
  | .none, _, _, h => by cases h; exact .non
  | .bool b, _, _, h => by cases h; exact .bl b
  | .int i, _, _, h => by cases h; exact .int i
  | .str s, _, _, h => by cases h; exact .str s
  | .list ds, _, c, h => by cases h with | lst e n r => exact .lst (sqL e) (DvA.dp' (by simpa [PyData.hasDict] using c) r)
  | .tuple ds, _, c, h => by cases h with | tup e r => exact .tup e.sq (DvA.dp' (by simpa [PyData.hasDict] using c) r)
  | .dict _, _, c, h => by simp [PyData.hasDict] at c
theorem DvA.dp' {H : Hp} {S : Addr → Prop} : ∀ {ds : List D} {vs : List V}, PyData.hasDictAll ds = false → DvA K H S vs ds → DpAll K H vs ds
  | [], _, _, h => by cases h; exact .nil
  | d :: ds, _, c, h => by
    have c2 : d.hasDict = false ∧ PyData.hasDictAll ds = false := by simpa [PyData.hasDictAll] using c
    cases h with | cons a b => exact .cons (Dv.dp' c2.1 a) (DvA.dp' c2.2 b)
end
theorem Db.dp' {fr : Fm} {H : Hp} {S : Addr → Prop} {v : V} {d : D} (c : d.hasDict = false) (h : Db K fr H S v d) : Dp K H v d := by
  rcases h with h | ⟨a, xs, ds, rfl, _, rfl, q, z⟩
  · exact h.dp' c
  · exact .lst (sqL q) (z.dp' (by simpa [PyData.hasDict] using c))
def rRepA (K : PySem.W.Frag) : List V → Hp → VK → Prop := fun xs H Q => ∃ v d, xs = [v] ∧ ((Dp K H v d ∧ okE 60 d = true ∧ nodes d ≤ 6000) ∨ (∃ a, v = .ref a ∧ Rd H a (.dK []) ∧ d = .dict [])) ∧ Q (.str d.shown) H
theorem call_repA {X : Cx} (hg : X.A.guards = some []) (hu : X.A.units + 66 < cLine) : CallR X (.builtin "repr") (rRepA X.K) := by
  intro pins s σ H xs us Q I r h
  obtain ⟨v, d, rfl, hd, q⟩ := h
  rcases hd with ⟨hd, ok, nd⟩ | ⟨a, rfl, ea, rfl⟩
  · obtain ⟨h1, h2, h3, h4⟩ := okE_le 60 d ok
    have sz : d.shown.length ≤ sizeLine := by rw [sizeLine_eq]; omega
    obtain ⟨u, rfl, rv⟩ := vals1 r
    cases hd with
    | non =>
      obtain rfl : u = Value.none := rv
      exact PySem.P.repr_of_none ⟨.str _, H, I.tok _, ⟨_, rfl⟩, q⟩
    | bl b =>
      obtain rfl : u = Value.bool b := rv
      exact PySem.P.repr_of_bool ⟨.str _, H, I.tok _, ⟨_, rfl⟩, q⟩
    | int i =>
      obtain ⟨t, rfl⟩ := rv
      have h5 : i.natAbs.log2 < 1900 := by simpa [okE] using ok
      exact PySem.P.repr_of_int (by omega) ⟨.str _, H, I.tok _, ⟨_, rfl⟩, q⟩
    | str x =>
      obtain ⟨t, rfl⟩ := rv
      exact PySem.P.repr_of_str ⟨.str _, H, I.tok _, ⟨_, rfl⟩, q⟩ sz
    | lst hs ha => exact call_reprD hg hu pins s σ H _ _ Q I r ⟨_, _, rfl, .lst hs ha, h2, h3, by omega, sz, q⟩
    | tup hs ha => exact call_reprD hg hu pins s σ H _ _ Q I r ⟨_, _, rfl, .tup hs ha, h2, h3, by omega, sz, q⟩
  · obtain ⟨u, rfl, rv⟩ := vals1 r
    obtain rfl : u = .ref a := rv
    obtain ⟨_, sm, vs, kv, o, es, ep, ho, hx, hd, _, hp, _⟩ := dk_rd I.hok ea
    cases kv
    have he : es.toList = [] := by
      cases e : es.toList with
      | nil => rfl
      | cons z zs => rw [e] at hp; cases hp
    have rd : Reads s.heap (.ref a) (.dict []) (a :: [] ++ []) := Reads.dict ho hx.1 hd (by rw [he]; exact ReadsAll.nil) (by rw [he]; exact ReadsAll.nil)
    refine repr_of_reads' rd (by rfl) (fun _ z => ?_) hg (by show X.A.units + (0 + 1 + 1) < cLine; omega) (fun _ _ z => z) (fun h2 u tk hk => ?_) (by decide +kernel)
    · have z2 : sysModules = a := by simpa using z
      rw [← z2] at sm
      simp at sm
    · exact ⟨.str _, H, I.kept hk, ⟨_, rfl⟩, q⟩
def repOk (d : D) : Bool := okE 60 d && decide (nodes d ≤ 6000)
@[simp] def reprF : F1 := fun ds => match ds with
  | [.dict []] => some (.str (PyData.dict []).shown)
  | [d] => if repOk d = true then some (.str d.shown) else none
  | _ => none
theorem cf_repr : CF K (rRepA K) reprF := ⟨fun fr H S al vs ds hx d e Q q => by
  unfold reprF at e
  split at e
  · cases e
    obtain ⟨v, rfl, h⟩ := dbA1 hx
    have h2 := h.flat (fun ds z => by cases z)
    cases h2 with
    | dct e n m r =>
      rename_i ks
      obtain rfl : ks = [] := by
        cases ks with
        | nil => rfl
        | cons _ _ => simp at m
      exact ⟨_, _, rfl, .inr ⟨_, rfl, .inr ⟨_, e⟩, rfl⟩, q _ H (Kp.refl _) (.str _)⟩
  · split at e
    · rename_i c
      cases e
      obtain ⟨v, rfl, h⟩ := dbA1 hx
      unfold repOk at c
      rw [Bool.and_eq_true] at c
      have c2 := of_decide_eq_true c.2
      exact ⟨v, _, rfl, .inl ⟨h.dp' (okE_le 60 _ c.1).2.2.1, c.1, c2⟩, q _ H (Kp.refl _) (.str _)⟩
    · cases e
  · cases e⟩
/-! ### enumerate, zip -/
@[simp] def enumFrom : Nat → List D → List D
  | _, [] => []
  | k, d :: r => .tuple [.int (k : Nat), d] :: enumFrom (k + 1) r
theorem enumFrom_length : ∀ (k : Nat) (ds : List D), (enumFrom k ds).length = ds.length
  | _, [] => rfl
  | k, d :: r => congrArg (· + 1) (enumFrom_length (k + 1) r)
theorem enumFrom_get : ∀ {k : Nat} {ds : List D} {i : Nat} {e : D}, (enumFrom k ds)[i]? = some e → ∃ d, ds[i]? = some d ∧ e = .tuple [.int ((k + i : Nat) : Int), d]
  | k, d :: r, 0, e, h => by
    have h2 : some (PyData.tuple [.int (k : Nat), d]) = some e := h
    cases h2
    exact ⟨d, rfl, rfl⟩
  | k, d :: r, i + 1, e, h => by
    obtain ⟨d2, e1, e2⟩ := enumFrom_get (k := k + 1) (ds := r) (i := i) h
    refine ⟨d2, e1, ?_⟩
    rw [e2, show k + 1 + i = k + (i + 1) by omega]
@[simp] def iEn (f : Ex) : Ax := fun ρ π => (iL f ρ π).map fun x => (enumFrom 0 x.1, x.2)
theorem ite_ok {a : Addr} {xs : List V} {ds : List D} : ItOk K true (Ite K a) (LPre K a xs ds) (enumFrom 0 ds) := by
  refine ⟨fun A B us h x => h.step us x, fun i A h l => ⟨xs, sqL h.1, by rw [h.2.2.length]; rw [enumFrom_length] at l; exact l⟩, fun i d A al h e => ?_⟩
  obtain ⟨d0, e0, rfl⟩ := enumFrom_get e
  obtain ⟨v, ev, dv⟩ := h.2.2.get e0
  refine ⟨⟨xs, v, sqL h.1, ev⟩, fun x H' y => ?_⟩
  obtain ⟨T, x0, rfl, hT, rfl, e2⟩ := y
  have e3 := e2 xs (sqL h.1)
  rw [ev] at e3
  cases e3
  refine ⟨upN hT, dxTup hT ?_⟩
  rw [Nat.zero_add]
  exact .cons (.int _) (.cons dv .nil)
theorem if_enum {t : TE} {f : Ex} (h : LF K t f) : IF K true (iEnum K (tCons t tNil)) (iEn f) := by
  refine ⟨fun fr σ H ρ π R ds π' e Q q => ?_⟩
  unfold iEn at e
  cases ei : iL f ρ π with
  | none => rw [ei] at e; cases e
  | some x =>
    rw [ei] at e
    cases e
    exact h.go fr σ H ρ π R x.1 x.2 (iL_some ei) _ fun a xs H' R' c p => ⟨a, xs, rfl, sqL p.1, q _ _ H' R' c ite_ok p⟩
/-- a list or a tuple that stands still -/
structure YF (K : PySem.W.Frag) (t : TE) (f : Ex) : Prop where
  go : ∀ (fr : Fm) (σ : L2.St) (H : Hp) (ρ : En) (π : Pot), Rel K fr σ H ρ π → ∀ d π', f ρ π = some (d, π') → ∀ Q : VK,
    (∀ v H', Rel K fr σ H' ρ π' → ChgP fr H H' → (∀ ds, d = .list ds → ∃ a xs, v = .ref a ∧ LPre K a xs ds (wd fr σ ρ H')) → (∀ ds, d = .tuple ds → ∃ a xs, v = .ref a ∧ TPre K a xs ds (wd fr σ ρ H')) → Q v H') → t σ H Q
theorem EF.yf {t : TE} {f : Ex} (h : EF K t f) : YF K t f := ⟨fun fr σ H ρ π R d π' e Q q => h.go fr σ H ρ π R d π' e Q fun v H' R' c dv => by
  refine q v H' R' c (fun ds z => ?_) fun ds z => ?_
  · subst z
    cases dv with
    | lst e n r => exact ⟨_, _, rfl, e, fun z => n (R'.us _ z), r⟩
  · subst z
    cases dv with
    | tup e r => exact ⟨_, _, rfl, e, r⟩⟩
theorem yf_var (i : Nat) : YF K (tVar i) (xLv i) := by
  refine ⟨fun fr σ H ρ π R d π' e Q q => ?_⟩
  unfold xLv at e
  split at e
  · rename_i s hs
    cases e
    obtain ⟨v, ev, dv⟩ := R.slot i _ hs
    refine ⟨_, ev, q v H R (.refl _ _) (fun ds z => ?_) fun ds z => ?_⟩
    · subst z
      cases dv with
      | lst e n r => exact ⟨_, _, rfl, e, fun z => n (R.us _ z), r⟩
    · subst z
      cases dv with
      | tup e r => exact ⟨_, _, rfl, e, r⟩
  · rename_i s hs
    cases e
    obtain ⟨a, xs, ev, ea, nu, dv⟩ := R.slot i _ hs
    refine ⟨_, ev, q _ H R (.refl _ _) (fun ds z => ?_) fun ds z => by cases z⟩
    cases z
    exact ⟨a, xs, rfl, ea, nu, dv⟩
  · cases e
@[simp] def zipD : List D → List D → List D
  | d :: ds, e :: es => .tuple [d, e] :: zipD ds es
  | _, _ => []
theorem zipD_stop : ∀ {ds es : List D} {i : Nat}, (zipD ds es).length ≤ i → ds.length ≤ i ∨ es.length ≤ i
  | [], _, i, h => .inl (Nat.zero_le _)
  | _ :: _, [], i, h => .inr (Nat.zero_le _)
  | d :: ds, e :: es, 0, h => by simp [zipD] at h
  | d :: ds, e :: es, i + 1, h => by
    have h2 : (zipD ds es).length ≤ i := by simpa [zipD] using h
    rcases zipD_stop h2 with z | z
    · exact .inl (by simpa using z)
    · exact .inr (by simpa using z)
theorem zipD_get : ∀ {ds es : List D} {i : Nat} {e : D}, (zipD ds es)[i]? = some e → ∃ a b, ds[i]? = some a ∧ es[i]? = some b ∧ e = .tuple [a, b]
  | [], _, i, e, h => by simp [zipD] at h
  | _ :: _, [], i, e, h => by simp [zipD] at h
  | d :: ds, f :: es, 0, e, h => by
    have h2 : some (PyData.tuple [d, f]) = some e := h
    cases h2
    exact ⟨d, f, rfl, rfl, rfl⟩
  | d :: ds, f :: es, i + 1, e, h => zipD_get (ds := ds) (es := es) (i := i) h
@[simp] def zipF : D → D → Option (List D)
  | .list a, .list b => some (zipD a b)
  | .tuple a, .tuple b => some (zipD a b)
  | _, _ => none
@[simp] def iZp (f g : Ex) : Ax := fun ρ π => (f ρ π).bind fun x => (g ρ x.2).bind fun y => (zipF x.1 y.1).map fun z => (z, y.2)
theorem itz_ok {a b : Addr} {xs ys : List V} {ds es : List D} : ItOk K true (Itz K a b) (fun A => LPre K a xs ds A ∧ LPre K b ys es A) (zipD ds es) := by
  refine ⟨fun A B us h x => ⟨h.1.step us x, h.2.step us x⟩, fun i A h l => ⟨xs, ys, sqL h.1.1, sqL h.2.1, ?_⟩, fun i d A al h e => ?_⟩
  · rw [h.1.2.2.length, h.2.2.2.length]
    exact zipD_stop l
  · obtain ⟨d1, d2, e1, e2, rfl⟩ := zipD_get e
    obtain ⟨v, ev, dv⟩ := h.1.2.2.get e1
    obtain ⟨w, ew, dw⟩ := h.2.2.2.get e2
    refine ⟨⟨xs, ys, v, w, sqL h.1.1, sqL h.2.1, ev, ew⟩, fun x H' y => ?_⟩
    obtain ⟨T, x0, y0, rfl, hT, rfl, q1, q2⟩ := y
    have r1 := q1 xs (sqL h.1.1)
    have r2 := q2 ys (sqL h.2.1)
    rw [ev] at r1
    rw [ew] at r2
    cases r1; cases r2
    exact ⟨upN hT, dxTup hT (.cons dv (.cons dw .nil))⟩
theorem itzT_ok {a b : Addr} {xs ys : List V} {ds es : List D} : ItOk K true (RZ.ItzT K a b) (fun A => TPre K a xs ds A ∧ TPre K b ys es A) (zipD ds es) := by
  refine ⟨fun A B us h x => ⟨⟨h.1.1.step us x, h.1.2.step us x⟩, h.2.1.step us x, h.2.2.step us x⟩, fun i A h l => ⟨xs, ys, h.1.1.sq, h.2.1.sq, ?_⟩, fun i d A al h e => ?_⟩
  · rw [h.1.2.length, h.2.2.length]
    exact zipD_stop l
  · obtain ⟨d1, d2, e1, e2, rfl⟩ := zipD_get e
    obtain ⟨v, ev, dv⟩ := h.1.2.get e1
    obtain ⟨w, ew, dw⟩ := h.2.2.get e2
    refine ⟨⟨xs, ys, v, w, h.1.1.sq, h.2.1.sq, ev, ew⟩, fun x H' y => ?_⟩
    obtain ⟨T, x0, y0, rfl, hT, rfl, q1, q2⟩ := y
    have r1 := q1 xs h.1.1.sq
    have r2 := q2 ys h.2.1.sq
    rw [ev] at r1
    rw [ew] at r2
    cases r1; cases r2
    exact ⟨upN hT, dxTup hT (.cons dv (.cons dw .nil))⟩
theorem if_zip {t u : TE} {f g : Ex} (h : YF K t f) (h2 : YF K u g) : IF K true (RZ.iZipA K (tCons t (tCons u tNil))) (iZp f g) := by
  refine ⟨fun fr σ H ρ π R ds π' e Q q => ?_⟩
  unfold iZp at e
  cases ef : f ρ π with
  | none => rw [ef] at e; cases e
  | some x =>
    rw [ef] at e
    simp only [Option.bind_some] at e
    cases eg : g ρ x.2 with
    | none => rw [eg] at e; cases e
    | some y =>
      rw [eg] at e
      simp only [Option.bind_some] at e
      cases ez : zipF x.1 y.1 with
      | none => rw [ez] at e; cases e
      | some z =>
        rw [ez] at e
        cases e
        refine h.go fr σ H ρ π R x.1 x.2 ef _ fun v H1 R1 c1 l1 t1 => ?_
        refine h2.go fr σ H1 ρ x.2 R1 y.1 y.2 eg _ fun w H2 R2 c2 l2 t2 => ?_
        unfold zipF at ez
        split at ez
        · rename_i a b e1 e2
          cases ez
          obtain ⟨p, xs, rfl, p1⟩ := l1 a e1
          obtain ⟨r, ys, rfl, p2⟩ := l2 b e2
          have p1' := p1.step R1.us (c2.step σ ρ)
          exact ⟨p, r, xs, ys, rfl, .inl ⟨sqL p1'.1, sqL p2.1, q _ _ H2 R2 (c1.trans c2) itz_ok ⟨p1', p2⟩⟩⟩
        · rename_i a b e1 e2
          cases ez
          obtain ⟨p, xs, rfl, p1⟩ := t1 a e1
          obtain ⟨r, ys, rfl, p2⟩ := t2 b e2
          have p1' : TPre K p xs a (wd fr σ ρ H2) := ⟨p1.1.step R1.us (c2.step σ ρ), p1.2.step R1.us (c2.step σ ρ)⟩
          exact ⟨p, r, xs, ys, rfl, .inr ⟨p1'.1.sq, p2.1.sq, q _ _ H2 R2 (c1.trans c2) itzT_ok ⟨p1', p2⟩⟩⟩
        · cases ez
/-! ### sorted numbers; in -/
theorem perm_sorted_uniq : ∀ {xs ys : List Int}, xs.Perm ys → xs.Pairwise (· ≤ ·) → ys.Pairwise (· ≤ ·) → xs = ys := fun p a b => p.eq_of_pairwise (fun _ _ _ _ h1 h2 => Int.le_antisymm h1 h2) a b
def sortI (ns : List Int) : List Int := ns.mergeSort (fun a b => decide (a ≤ b))
theorem sortI_spec (ns : List Int) : (sortI ns).Perm ns ∧ (sortI ns).Pairwise (· ≤ ·) := by
  refine ⟨List.mergeSort_perm _ _, ?_⟩
  have h := List.pairwise_mergeSort (le := fun a b : Int => decide (a ≤ b)) (fun a b c h1 h2 => decide_eq_true (Int.le_trans (of_decide_eq_true h1) (of_decide_eq_true h2))) (fun a b => by
    rcases Int.le_total a b with h | h
    · simp [h]
    · simp [h]) ns
  exact h.imp fun h => of_decide_eq_true h
def sortedF : F1 := fun ds => match ds with
  | [.list a] => (intsO a).map fun ns => .list ((sortI ns).map PyData.int)
  | _ => none
theorem cn_sorted : CN K (rSortedI K) sortedF := ⟨fun fr H S al vs ds hx d e Q q => by
  unfold sortedF at e
  split at e
  · rename_i a
    cases ei : intsO a with
    | none => rw [ei] at e; cases e
    | some ns =>
      rw [ei] at e
      cases e
      obtain ⟨v, rfl, h⟩ := dbA1 hx
      obtain ⟨p, xs, rfl, ep, rp⟩ := h.list
      rw [ints_some ei] at rp
      obtain rfl := dvInts rp
      refine ⟨p, ns, rfl, sqL ep, fun ns' l pm so hl => ?_⟩
      obtain ⟨p2, s2⟩ := sortI_spec ns
      have e3 : ns' = sortI ns := perm_sorted_uniq (pm.trans p2.symm) so s2
      rw [e3]
      exact q _ _ (upN hl) (dnNew al hl (intsDv _))
  · cases e⟩
def rInA (K : PySem.W.Frag) (neg : Bool) : R2 := fun x y H Q => (if neg then rNotInD K x y H Q else rInD K x y H Q) ∨ rIn K neg x y H Q
theorem op_inA {X : Cx} (hu : X.A.units + 66 < cLine) : OpR X (compareOp .In) (rInA X.K false) := (op_inD (show X.A.units + 65 < cLine by omega)).or op_in_seq
def flatVD : D → V
  | .none => .non
  | .bool b => .bl b
  | .int i => .int i
  | .str s => .str s
  | _ => .non
theorem Db.flatV {fr : Fm} {H : Hp} {S : Addr → Prop} {v : V} {d : D} (h : Db K fr H S v d) (f : flatD d = true) : v = flatVD d ∧ L2.flatV v = true := by
  cases d with
  | none => obtain rfl := h.non; exact ⟨rfl, rfl⟩
  | bool b => obtain rfl := h.bool; exact ⟨rfl, rfl⟩
  | int b => obtain rfl := h.int; exact ⟨rfl, rfl⟩
  | str b => obtain rfl := h.str; exact ⟨rfl, rfl⟩
  | list _ => cases f
  | tuple _ => cases f
  | dict _ => cases f
theorem DvA.flat {fr : Fm} {H : Hp} {S : Addr → Prop} : ∀ {ds : List D} {vs : List V}, DvA K H S vs ds → ds.all flatD = true → vs = ds.map flatVD ∧ vs.all L2.flatV = true
  | [], _, h, _ => by cases h; exact ⟨rfl, rfl⟩
  | d :: ds, _, h, f => by
    have f2 : flatD d = true ∧ ds.all flatD = true := by simpa using f
    cases h with
    | cons a b =>
      obtain ⟨e1, e2⟩ := Db.flatV (fr := fr) (.inl a) f2.1
      obtain ⟨e3, e4⟩ := DvA.flat (fr := fr) b f2.2
      exact ⟨by rw [List.map_cons, ← e1, ← e3], by rw [List.all_cons, e2, e4]; rfl⟩
def inF : F2 := fun x y => match y with
  | .list ds => if SeqAt.shaped x = true ∧ SeqAt.shaped (.list ds) = true then some (.bool (ds.any fun z => PyData.eqv z x)) else none
  | .tuple ds => if flatD x = true ∧ ds.all flatD = true then some (.bool (inV (flatVD x) (ds.map flatVD))) else none
  | _ => none
theorem of_in : OF K (rInA K false) inF := ⟨fun fr H S al x y dx dy hx hy d e Q q => by
  unfold inF at e
  split at e
  · split at e
    · rename_i ds c
      cases e
      left
      rw [if_neg (by decide)]
      exact ⟨dx, ds, hx.dp (shaped_lay c.1), hy.dp (shaped_lay c.2), c.1, c.2, q _ H (Kp.refl _) (.bl _)⟩
    · cases e
  · split at e
    · rename_i ds c
      cases e
      right
      obtain ⟨p, xs, rfl, ep, rp⟩ := hy.tuple
      obtain ⟨e1, e2⟩ := hx.flatV c.1
      obtain ⟨e3, e4⟩ := DvA.flat (fr := fr) rp c.2
      refine ⟨p, xs, rfl, .inr ep.sq, e2, e4, ?_⟩
      rw [if_neg (by decide), e1, e3]
      exact q _ H (Kp.refl _) (.bl _)
    · cases e
  · cases e⟩
end FL

noncomputable section
namespace FL
open PySem PySem.Spec PyProof.Rows L2 EP
variable {K : PySem.W.Frag}
/-! ### a, b = x, [..]: some of the names get lists of their own -/
def plus (fr : Fm) (Ps : List Addr) : Fm := ⟨fun a => fr.S0 a ∨ a ∈ Ps, fr.pt⟩
theorem plus_nil (fr : Fm) : plus fr [] = fr := by
  unfold plus
  congr
  funext a
  simp
theorem plus_cons (fr : Fm) (p : Addr) (Ps : List Addr) : plus ⟨fun a => fr.S0 a ∨ a = p, fr.pt⟩ Ps = plus fr (p :: Ps) := by
  unfold plus
  congr
  funext a
  simp only [List.mem_cons, or_assoc]
def MV (K : PySem.W.Frag) (S : Addr → Prop) (H : Hp) : List Bool → List V → List D → List Addr → Prop
  | [], [], [], [] => True
  | k :: ks, v :: vs, d :: ds, Ps => if k = true then (∃ p Ps', Ps = p :: Ps' ∧ v = .ref p ∧ (∃ xs es, d = .list es ∧ H p = some (.lst xs) ∧ DvA K H S xs es) ∧ MV K S H ks vs ds Ps')
    else Dv K H S v d ∧ MV K S H ks vs ds Ps
  | _, _, _, _ => False
structure MF (K : PySem.W.Frag) (ks : List Bool) (t : TA) (f : Ax) : Prop where
  go : ∀ (fr : Fm) (σ : L2.St) (H : Hp) (ρ : En) (π : Pot), Rel K fr σ H ρ π → ∀ ds π', f ρ π = some (ds, π') → ∀ Q : List V → Hp → Prop,
    (∀ vs H' Ps, Rel K (plus fr Ps) σ H' ρ π' → ChgP fr H H' → (∀ p ∈ Ps, H p = none) → Ps.Nodup → MV K (wd (plus fr Ps) σ ρ H').S H' ks vs ds Ps → Q vs H') → t σ H Q
theorem mf_nil : MF K [] tNil aNil := ⟨fun fr σ H ρ π R d π' e Q q => by
  cases e
  exact q _ H [] (by rw [plus_nil]; exact R) (.refl _ _) (fun p h => by cases h) .nil trivial⟩
theorem mf_dat {ks : List Bool} {ta : TE} {tr : TA} {a : Ex} {r : Ax} (h : EF K ta a) (h2 : MF K ks tr r) : MF K (false :: ks) (tCons ta tr) (aCons a r) := by
  refine ⟨fun fr σ H ρ π R ds π' e Q q => ?_⟩
  obtain ⟨d, π1, es, ea, er, rfl⟩ := aCons_some e
  refine h.go fr σ H ρ π R d π1 ea _ fun v H1 R1 c1 dv => ?_
  refine h2.go fr σ H1 ρ π1 R1 es π' er _ fun vs H2 Ps R2 c2 np nd mv => ?_
  refine q _ H2 Ps R2 (c1.trans c2) (fun p z => R1.back c1 (np p z)) nd ?_
  show if false = true then _ else _
  rw [if_neg (by decide)]
  refine ⟨dv.step (A := wd fr σ ρ H1) (B := wd (plus fr Ps) σ ρ H2) R1.us ⟨fun b o n z => c2 b o (fun y => n (.inl y)) z, fun a z => .inl z, fun a z => ?_⟩, mv⟩
  rcases z with (z | z) | z
  · exact .inl (.inl z)
  · exact .inr (np a z)
  · exact .inl (.inr z)
theorem mf_new {ks : List Bool} {ta : TE} {tr : TA} {a : Ex} {r : Ax} (h : NF K ta a) (h2 : MF K ks tr r) : MF K (true :: ks) (tCons ta tr) (aCons a r) := by
  refine ⟨fun fr σ H ρ π R ds π' e Q q => ?_⟩
  obtain ⟨d, π1, es, ea, er, rfl⟩ := aCons_some e
  refine h.go fr σ H ρ π R d π1 ea _ fun v H1 R1 c1 dv => ?_
  obtain ⟨p, xs, ls, rfl, e2, h0, h1, ns, hd⟩ := dv
  obtain ⟨R2, st⟩ := R.keep (π' := π1) c1 h0 (by rw [h1]; intro z; cases z) fun a z => (R1.pt a z).2.2
  refine h2.go _ σ H1 ρ π1 R2 es π' er _ fun vs H2 Ps R3 c2 np nd mv => ?_
  rw [plus_cons] at R3 mv
  have npt : fr.pt ≠ some p := fun z => ns (.inl (R1.pt p z).1)
  have c2' : ChgP fr H1 H2 := c2
  refine q _ H2 (p :: Ps) R3 (c1.trans c2') (fun b z => ?_) (List.nodup_cons.mpr ⟨fun z => (by rw [np p z] at h1; cases h1), nd⟩) ?_
  · rcases List.mem_cons.mp z with z | z
    · rw [z]; exact h0
    · exact R1.back c1 (np b z)
  · show if true = true then _ else _
    rw [if_pos rfl]
    refine ⟨p, Ps, rfl, rfl, ⟨xs, ls, e2, c2 _ _ npt h1, ?_⟩, mv⟩
    refine hd.step (A := ⟨(wd fr σ ρ H1).U, fun b => (wd fr σ ρ H1).S b ∨ b = p, H1⟩) (B := ⟨(wd fr σ ρ H1).U, (wd (plus fr (p :: Ps)) σ ρ H2).S, H2⟩) (fun b z => .inl (R1.us b z)) ⟨fun b o n z => c2 b o (fun y => n (.inl y)) z, fun a z => .inl z, fun a z => ?_⟩
    rcases z with (z | z) | z
    · exact .inl (.inl (.inl z))
    · rcases List.mem_cons.mp z with z | z
      · exact .inl (.inr z)
      · exact .inr (np a z)
    · exact .inl (.inl (.inr z))
/-- a list that is kept apart becomes a name's own -/
theorem Rel.adopt {fr : Fm} {σ : L2.St} {H : Hp} {ρ : En} {π : Pot} {p : Addr} {Ps : List Addr} (R : Rel K (plus fr (p :: Ps)) σ H ρ π) {i : Nat} {xs : List V} {ds : List D} (nd : p ∉ Ps) (n0 : ¬ fr.S0 p) (npt : fr.pt ≠ some p)
    (h1 : H p = some (.lst xs)) (h2 : DvA K H (wd (plus fr (p :: Ps)) σ ρ H).S xs ds)
    (ha : ∀ (j : Nat) (es : List D) (a : Addr), ρ[j]? = some (.arg es) → σ[j]? = some (some (.ref a)) → a ≠ p) (hs : hasScr ρ = false) :
    Rel K (plus fr Ps) (σ.set i (some (.ref p))) H (ρ.set i (.own ds)) π ∧ (∀ a, IsOwn (σ.set i (some (.ref p))) (ρ.set i (.own ds)) a → IsOwn σ ρ a ∨ a = p) := by
  have pS : (plus fr (p :: Ps)).S0 p := .inr List.mem_cons_self
  have nown : ¬ IsOwn σ ρ p := fun z => R.os p z pS
  have ow : ∀ a, IsOwn (σ.set i (some (.ref p))) (ρ.set i (.own ds)) a → IsOwn σ ρ a ∨ a = p := by
    rintro a ⟨j, s, e, o, q⟩
    by_cases z : i = j
    · subst z
      rw [List.getElem?_set_self'] at q
      cases y : σ[i]? with
      | none => rw [y] at q; cases q
      | some w =>
        rw [y] at q
        have q2 : some (V.ref p) = some (V.ref a) := Option.some.inj q
        cases q2
        exact .inr rfl
    · rw [List.getElem?_set_ne z] at e q
      exact .inl ⟨j, s, e, o, q⟩
  have wS : ∀ a, (wd (plus fr Ps) (σ.set i (some (.ref p))) (ρ.set i (.own ds)) H).S a → (wd (plus fr (p :: Ps)) σ ρ H).S a := fun a z => by
    rcases z with (z | z) | z
    · exact .inl (.inl z)
    · exact .inl (.inr (List.mem_cons_of_mem _ z))
    · rcases ow a z with z | z
      · exact .inr z
      · exact .inl (.inr (by rw [z]; exact List.mem_cons_self))
  refine ⟨⟨by simp [R.len], fun j s e => ?_, fun j k s t a e1 e2 o1 o2 q1 q2 => ?_, fun a z => R.all a ?_, fun a z => ?_, fun a z => ?_⟩, ow⟩
  · by_cases z : i = j
    · subst z
      have l : i < ρ.length := by
        have := (List.getElem?_eq_some_iff.mp e).1
        simpa using this
      rw [List.getElem?_set_self l] at e
      cases e
      exact ⟨p, xs, by rw [List.getElem?_set_self (by rw [R.len]; exact l)], h1, h2.weak wS⟩
    · rw [List.getElem?_set_ne z] at e ⊢
      have sl := R.slot j s e
      cases s with
      | un => trivial
      | dat d => obtain ⟨v, e, q⟩ := sl; exact ⟨v, e, q.weak wS⟩
      | arg es =>
        obtain ⟨a, ys, e3, q, n, r⟩ := sl
        refine ⟨a, ys, e3, q, fun y => ?_, r.weak wS⟩
        rcases y with y | y
        · exact n (.inl y)
        · rcases ow a y with y | y
          · exact n (.inr y)
          · exact ha j es a e e3 y
      | own es => obtain ⟨a, ys, e3, q, r⟩ := sl; exact ⟨a, ys, e3, q, r.weak wS⟩
      | dct kvs => obtain ⟨a, ys, e3, q, m, r⟩ := sl; exact ⟨a, ys, e3, q, m, r.weak wS⟩
      | pot => exact sl
      | scr ns => exact (noScr hs e).elim
  · by_cases d1 : i = j
    · by_cases d2 : i = k
      · rw [← d1, ← d2]
      · exfalso
        subst d1
        rw [List.getElem?_set_self'] at q1
        rw [List.getElem?_set_ne d2] at e2 q2
        cases y : σ[i]? with
        | none => rw [y] at q1; cases q1
        | some w =>
          rw [y] at q1
          have q3 : some (V.ref p) = some (V.ref a) := Option.some.inj q1
          cases q3
          exact nown ⟨k, t, e2, o2, q2⟩
    · by_cases d2 : i = k
      · exfalso
        subst d2
        rw [List.getElem?_set_self'] at q2
        rw [List.getElem?_set_ne d1] at e1 q1
        cases y : σ[i]? with
        | none => rw [y] at q2; cases q2
        | some w =>
          rw [y] at q2
          have q3 : some (V.ref p) = some (V.ref a) := Option.some.inj q2
          cases q3
          exact nown ⟨j, s, e1, o1, q1⟩
      · rw [List.getElem?_set_ne d1] at e1 q1
        rw [List.getElem?_set_ne d2] at e2 q2
        exact R.nd j k s t a e1 e2 o1 o2 q1 q2
  · rcases z with z | z
    · exact .inl z
    · exact .inr (List.mem_cons_of_mem _ z)
  · obtain ⟨p1, p2, p3⟩ := R.pt a z
    refine ⟨?_, fun y => ?_, p3⟩
    · rcases p1 with p1 | p1
      · exact .inl p1
      · rcases List.mem_cons.mp p1 with p1 | p1
        · exact absurd z (by rw [p1]; exact npt)
        · exact .inr p1
    · rcases ow a y with y | y
      · exact p2 y
      · exact npt (by rw [← y]; exact z)
  · rcases ow a z with z | z
    · exact fun y => R.os a z (y.imp id (List.mem_cons_of_mem _))
    · rw [z]
      rintro (y | y)
      · exact n0 y
      · exact nd y
def setAll : L2.St → List Nat → List V → L2.St
  | σ, i :: is, v :: vs => setAll (σ.set i (some v)) is vs
  | σ, _, _ => σ
@[simp] def asgAll : En → List Nat → List Bool → List D → Option En
  | ρ, i :: is, k :: ks, d :: ds => if k = true then (match d with
      | .list es => if hasScr ρ = true then none else asgAll (ρ.set i (.own es)) is ks ds
      | _ => none) else asgAll (ρ.set i (.dat d)) is ks ds
  | ρ, [], [], [] => some ρ
  | _, _, _, _ => none
theorem arg_set {ρ : En} {σ : L2.St} {i : Nat} {s : Slot} {o : Option V} {Ps : List Addr} (ns : ∀ es, s ≠ .arg es) (ha : ∀ (j : Nat) (es : List D) (a : Addr), ρ[j]? = some (.arg es) → σ[j]? = some (some (.ref a)) → a ∉ Ps) :
    ∀ (j : Nat) (es : List D) (a : Addr), (ρ.set i s)[j]? = some (.arg es) → (σ.set i o)[j]? = some (some (.ref a)) → a ∉ Ps := by
  intro j es a e1 e2
  by_cases z : i = j
  · subst z
    rw [List.getElem?_set_self'] at e1
    cases y : ρ[i]? with
    | none => rw [y] at e1; cases e1
    | some w =>
      rw [y] at e1
      have e3 : s = .arg es := Option.some.inj e1
      exact absurd e3 (ns es)
  · rw [List.getElem?_set_ne z] at e1 e2
    exact ha j es a e1 e2
theorem Rel.many {fr : Fm} {H : Hp} {π : Pot} : ∀ {is : List Nat} {ks : List Bool} {vs : List V} {ds : List D} {Ps : List Addr} {σ : L2.St} {ρ ρ' : En}, Rel K (plus fr Ps) σ H ρ π → Ps.Nodup → (∀ p ∈ Ps, ¬ fr.S0 p) → (∀ p ∈ Ps, fr.pt ≠ some p) →
    (∀ (j : Nat) (es : List D) (a : Addr), ρ[j]? = some (.arg es) → σ[j]? = some (some (.ref a)) → a ∉ Ps) → MV K (wd (plus fr Ps) σ ρ H).S H ks vs ds Ps → asgAll ρ is ks ds = some ρ' →
    Rel K fr (setAll σ is vs) H ρ' π ∧ ∀ a, IsOwn (setAll σ is vs) ρ' a → IsOwn σ ρ a ∨ a ∈ Ps
  | [], [], [], [], [], σ, ρ, ρ', R, _, _, _, _, _, e => by
    cases e
    rw [plus_nil] at R
    exact ⟨R, fun a h => .inl h⟩
  | i :: is, k :: ks, v :: vs, d :: ds, Ps, σ, ρ, ρ', R, nd, n0, npt, ha, mv, e => by
    have mv : if k = true then _ else _ := mv
    have e : (if k = true then _ else _) = _ := e
    by_cases c : k = true
    · rw [if_pos c] at mv e
      obtain ⟨p, Ps', rfl, rfl, ⟨xs, es, rfl, h1, h2⟩, mv2⟩ := mv
      have hs : hasScr ρ = false := by
        cases z : hasScr ρ with
        | false => rfl
        | true => simp [z] at e
      simp only [hs, Bool.false_eq_true, if_false] at e
      have nd2 := List.nodup_cons.mp nd
      obtain ⟨R2, ow⟩ := R.adopt (i := i) nd2.1 (n0 p List.mem_cons_self) (npt p List.mem_cons_self) h1 h2 (fun j es a e1 e2 z => ha j es a e1 e2 (by rw [z]; exact List.mem_cons_self)) hs
      have wS : ∀ a, (wd (plus fr Ps') (σ.set i (some (.ref p))) (ρ.set i (.own es)) H).S a → (wd (plus fr (p :: Ps')) σ ρ H).S a := fun a z => by
        rcases z with (z | z) | z
        · exact .inl (.inl z)
        · exact .inl (.inr (List.mem_cons_of_mem _ z))
        · rcases ow a z with z | z
          · exact .inr z
          · exact .inl (.inr (by rw [z]; exact List.mem_cons_self))
      have mw : ∀ {ks : List Bool} {vs : List V} {ds : List D} {Qs : List Addr}, MV K (wd (plus fr (p :: Ps')) σ ρ H).S H ks vs ds Qs → MV K (wd (plus fr Ps') (σ.set i (some (.ref p))) (ρ.set i (.own es)) H).S H ks vs ds Qs := by
        intro ks
        induction ks with
        | nil => intro vs ds Qs h; cases vs <;> cases ds <;> cases Qs <;> first | trivial | exact h.elim
        | cons k ks ih =>
          intro vs ds Qs h
          cases vs with
          | nil => exact h.elim
          | cons v vs =>
            cases ds with
            | nil => exact h.elim
            | cons d ds =>
              have h : if k = true then _ else _ := h
              show if k = true then _ else _
              by_cases c : k = true
              · rw [if_pos c] at h ⊢
                obtain ⟨p2, Q2, e1, e2, ⟨xs, es2, e3, e4, e5⟩, h2⟩ := h
                exact ⟨p2, Q2, e1, e2, ⟨xs, es2, e3, e4, e5.weak wS⟩, ih h2⟩
              · rw [if_neg c] at h ⊢
                exact ⟨h.1.weak wS, ih h.2⟩
      obtain ⟨R3, ow3⟩ := Rel.many R2 nd2.2 (fun q z => n0 q (List.mem_cons_of_mem _ z)) (fun q z => npt q (List.mem_cons_of_mem _ z))
        (arg_set (fun es z => by cases z) fun j es a e1 e2 z => ha j es a e1 e2 (List.mem_cons_of_mem _ z)) (mw mv2) e
      refine ⟨R3, fun a z => ?_⟩
      rcases ow3 a z with z | z
      · rcases ow a z with z | z
        · exact .inl z
        · exact .inr (by rw [z]; exact List.mem_cons_self)
      · exact .inr (List.mem_cons_of_mem _ z)
    · rw [if_neg c] at mv e
      obtain ⟨R2, st⟩ := R.set (i := i) mv.1
      have ow : ∀ a, IsOwn (σ.set i (some v)) (ρ.set i (.dat d)) a → IsOwn σ ρ a := fun a h => own_set rfl h
      have wS : ∀ a, (wd (plus fr Ps) (σ.set i (some v)) (ρ.set i (.dat d)) H).S a → (wd (plus fr Ps) σ ρ H).S a := fun a z => z.imp id (ow a)
      have mw : ∀ {ks : List Bool} {vs : List V} {ds : List D} {Qs : List Addr}, MV K (wd (plus fr Ps) σ ρ H).S H ks vs ds Qs → MV K (wd (plus fr Ps) (σ.set i (some v)) (ρ.set i (.dat d)) H).S H ks vs ds Qs := by
        intro ks
        induction ks with
        | nil => intro vs ds Qs h; cases vs <;> cases ds <;> cases Qs <;> first | trivial | exact h.elim
        | cons k ks ih =>
          intro vs ds Qs h
          cases vs with
          | nil => exact h.elim
          | cons v vs =>
            cases ds with
            | nil => exact h.elim
            | cons d ds =>
              have h : if k = true then _ else _ := h
              show if k = true then _ else _
              by_cases c : k = true
              · rw [if_pos c] at h ⊢
                obtain ⟨p2, Q2, e1, e2, ⟨xs, es2, e3, e4, e5⟩, h2⟩ := h
                exact ⟨p2, Q2, e1, e2, ⟨xs, es2, e3, e4, e5.weak wS⟩, ih h2⟩
              · rw [if_neg c] at h ⊢
                exact ⟨h.1.weak wS, ih h.2⟩
      obtain ⟨R3, ow3⟩ := Rel.many R2 nd n0 npt (arg_set (fun es z => by cases z) ha) (mw mv.2) e
      exact ⟨R3, fun a z => (ow3 a z).imp (ow a) id⟩
theorem MF.fin {ks : List Bool} {t : TA} {f : Ax} (h : MF K ks t f) {fr : Fm} {σ : L2.St} {H : Hp} {ρ : En} {π : Pot} (R : Rel K fr σ H ρ π) {ds : List D} {π' : Pot} (e : f ρ π = some (ds, π')) {is : List Nat} {ρ' : En} (ea : asgAll ρ is ks ds = some ρ')
    {Q : List V → Hp → Prop} (q : ∀ vs H', vs.length = ks.length → Rel K fr (setAll σ is vs) H' ρ' π' → Step (wd fr σ ρ H) (wd fr (setAll σ is vs) ρ' H') → Q vs H') : t σ H Q := by
  refine h.go fr σ H ρ π R ds π' e Q fun vs H' Ps R' c np nd mv => ?_
  have n0 : ∀ p ∈ Ps, ¬ fr.S0 p := fun p z y => R.all p y (np p z)
  have npt : ∀ p ∈ Ps, fr.pt ≠ some p := fun p z y => n0 p z (R.pt p y).1
  obtain ⟨R3, ow⟩ := R'.many (fr := fr) nd n0 npt (fun j es a e1 e2 z => by
    obtain ⟨a', xs, e3, e4, _⟩ := R.slot j _ e1
    rw [e2] at e3
    cases e3
    have e4 : H a = _ := e4
    rw [np a z] at e4; cases e4) mv ea
  have ln : ∀ {ks : List Bool} {vs : List V} {ds : List D} {Qs : List Addr} {S : Addr → Prop}, MV K S H' ks vs ds Qs → vs.length = ks.length := by
    intro ks
    induction ks with
    | nil => intro vs ds Qs S h; cases vs <;> cases ds <;> cases Qs <;> first | rfl | exact h.elim
    | cons k ks ih =>
      intro vs ds Qs S h
      cases vs with
      | nil => exact h.elim
      | cons v vs =>
        cases ds with
        | nil => exact h.elim
        | cons d ds =>
          have h : if k = true then _ else _ := h
          by_cases c : k = true
          · rw [if_pos c] at h
            obtain ⟨_, _, _, _, _, h2⟩ := h
            exact congrArg (· + 1) (ih h2)
          · rw [if_neg c] at h
            exact congrArg (· + 1) (ih h.2)
  refine q vs H' (ln mv) R3 ⟨fun b o n z => c b o (fun y => n (.inl y)) z, fun a z => ?_, fun a z => ?_⟩
  · rcases z with z | z
    · exact .inl (.inl z)
    · rcases ow a z with z | z
      · exact .inl (.inr z)
      · exact .inr (np a z)
  · rcases z with z | z
    · exact .inl (.inl z)
    · rcases ow a z with z | z
      · exact .inl (.inr z)
      · exact .inr (np a z)
@[simp] def sMany (is : List Nat) (ks : List Bool) (a : Ax) : Sx := fun ρ π => (a ρ π).bind fun x => (asgAll ρ is ks x.1).map fun ρ' => (ρ', x.2, .nx)
theorem sMany_some {is : List Nat} {ks : List Bool} {a : Ax} {ρ : En} {π : Pot} {r : En × Pot × Out} (e : sMany is ks a ρ π = some r) : ∃ ds π' ρ', a ρ π = some (ds, π') ∧ asgAll ρ is ks ds = some ρ' ∧ r = (ρ', π', .nx) := by
  unfold sMany at e
  cases ea : a ρ π with
  | none => rw [ea] at e; cases e
  | some x =>
    rw [ea] at e
    simp only [Option.bind_some] at e
    cases eb : asgAll ρ is ks x.1 with
    | none => rw [eb] at e; cases e
    | some y => rw [eb] at e; cases e; exact ⟨x.1, x.2, y, rfl, eb, rfl⟩
theorem sf_many2 {nw : Bool} {i j : Nat} {k l : Bool} {t : TA} {a : Ax} (h : MF K [k, l] t a) : SF K nw (tPar i j t) (sMany [i, j] [k, l] a) := by
  refine ⟨fun fr σ H ρ π R ρ' π' o e D q => ?_⟩
  obtain ⟨ds, π1, ρ1, ea, eb, e⟩ := sMany_some e
  cases e
  refine h.fin R ea eb fun vs H' ln R' st => ?_
  match vs, ln with
  | [v, w], _ => exact ⟨v, w, rfl, q _ H' R' st⟩
theorem sf_many3 {nw : Bool} {i j m : Nat} {k l n : Bool} {t : TA} {a : Ax} (h : MF K [k, l, n] t a) : SF K nw (tPar3 i j m t) (sMany [i, j, m] [k, l, n] a) := by
  refine ⟨fun fr σ H ρ π R ρ' π' o e D q => ?_⟩
  obtain ⟨ds, π1, ρ1, ea, eb, e⟩ := sMany_some e
  cases e
  refine h.fin R ea eb fun vs H' ln R' st => ?_
  match vs, ln with
  | [v, w, u], _ => exact ⟨v, w, u, rfl, q _ H' R' st⟩
end FL

noncomputable section
namespace FL
open PySem PySem.Spec PyProof.Rows L2 EP
variable {K : PySem.W.Frag}
/-! ### the script -/
@[simp] def xScrIx (i : Nat) (f : Ex) : Ex := fun ρ π => match ρ[i]? with
  | some (.scr ns) => (f ρ π).bind fun x => (isI x.1).bind fun k => (atI ns k).map fun n => (.int n, x.2)
  | _ => none
theorem ef_scrIx {i : Nat} {t : TE} {f : Ex} (h : BF K t f) : EF K (tOp (rIx K) (tVar i) t) (xScrIx i f) := by
  refine ⟨fun fr σ H ρ π R d π' e Q q => ?_⟩
  unfold xScrIx at e
  split at e
  · rename_i ns hs
    cases ef : f ρ π with
    | none => rw [ef] at e; cases e
    | some x =>
      rw [ef] at e
      simp only [Option.bind_some] at e
      cases ei : isI x.1 with
      | none => rw [ei] at e; cases e
      | some k =>
        rw [ei] at e
        simp only [Option.bind_some] at e
        cases ea : atI ns k with
        | none => rw [ea] at e; cases e
        | some n =>
          rw [ea] at e
          cases e
          obtain ⟨a, ev, eq, nu⟩ := R.slot i _ hs
          refine ⟨_, ev, ?_⟩
          refine h.go fr σ H ρ π R x.1 x.2 ef _ fun v H1 R1 c1 b => ?_
          rw [isI_some ei] at b
          obtain rfl := b.int
          obtain ⟨a', ev', eq', _⟩ := R1.slot i _ hs
          rw [ev] at ev'
          cases ev'
          refine .inl ⟨a, ns.map V.int, k, .int n, rfl, rfl, eq', ?_, q _ H1 R1 c1 (.int _)⟩
          unfold atI at ea ⊢
          rw [List.length_map]
          cases ej : ixN ns.length k with
          | none => rw [ej] at ea; cases ea
          | some j =>
            rw [ej] at ea
            have ea : ns[j]? = some n := ea
            show (ns.map V.int)[j]? = _
            rw [List.getElem?_map, ea]; rfl
  · cases e
@[simp] def xScrLen (i : Nat) : Ex := fun ρ π => match ρ[i]? with
  | some (.scr ns) => some (.int ns.length, π)
  | _ => none
theorem ef_scrLen {i : Nat} : EF K (tCB (fun xs H Q => ∃ x n, xs = [x] ∧ LenV K x H n ∧ Q (.int n) H) (tCons (tVar i) tNil)) (xScrLen i) := by
  refine ⟨fun fr σ H ρ π R d π' e Q q => ?_⟩
  unfold xScrLen at e
  split at e
  · rename_i ns hs
    cases e
    obtain ⟨a, ev, eq, nu⟩ := R.slot i _ hs
    refine ⟨_, ev, _, ns.length, rfl, .inl ⟨ns.map V.int, eq, by rw [List.length_map]⟩, q _ H R (.refl _ _) (.int _)⟩
  · cases e
@[simp] def xScrSl (i : Nat) (l h : PxF) : Ex := fun ρ π => match ρ[i]? with
  | some (.scr ns) => (l ρ π).bind fun y => (h ρ y.2).map fun z => (.list ((cutD ns y.1 z.1).map PyData.int), z.2)
  | _ => none
theorem cut_map (ns : List Int) (lo hi : Option Int) : cutV (ns.map V.int) lo hi = (cutD ns lo hi).map V.int := by
  unfold cutV cutD
  rw [List.length_map, List.map_take, List.map_drop]
theorem nf_scrSl {i : Nat} {tl th : TO} {l h : PxF} (hl : PF K tl l) (hh : PF K th h) : NF K (tSl (rSlL K) (tVar i) tl th) (xScrSl i l h) := by
  refine ⟨fun fr σ H ρ π R d π' e Q q => ?_⟩
  unfold xScrSl at e
  split at e
  · rename_i ns hs
    cases el : l ρ π with
    | none => rw [el] at e; cases e
    | some y =>
      rw [el] at e
      simp only [Option.bind_some] at e
      cases eh : h ρ y.2 with
      | none => rw [eh] at e; cases e
      | some z =>
        rw [eh] at e
        cases e
        obtain ⟨a, ev, eq, nu⟩ := R.slot i _ hs
        refine ⟨_, ev, ?_⟩
        refine hl.go fr σ H ρ π R y.1 y.2 el _ fun H1 R1 c1 => ?_
        refine hh.go fr σ H1 ρ y.2 R1 z.1 z.2 eh _ fun H2 R2 c2 => ?_
        obtain ⟨a', ev', eq', _⟩ := R2.slot i _ hs
        rw [ev] at ev'
        cases ev'
        refine ⟨a, _, rfl, eq', fun p hp => ?_⟩
        rw [cut_map]
        exact q _ _ (R2.kp (upN hp)) (c1.trans (c2.trans (.of (upN hp)))) ((dnNew R2.sA hp (intsDv _)).back fun b z => R1.back c1 (R2.back c2 z))
  · cases e
/-- the def that makes the pot out of the script -/
@[simp] def runS (n : Nat) (b : Sx) : List Int → D → Option D := fun ns k => (outOf (b (.scr ns :: .dat k :: List.replicate n .un) [])).map (·.1)
def SpS (K : PySem.W.Frag) (F : List Int → D → Option D) : Sp := fun vs H Q _ => ∃ (a : Addr) (ns : List Int) (k : Int) (r : D), vs = [.ref a, .int k] ∧ SqL K H a (ns.map V.int) ∧ F ns (.int k) = some r ∧
  ∀ v H', Kp H H' → Dn K H H' (fun _ => False) v r → Q v H'
theorem SF.spS {N : List Str} {n : Nat} {t : TS} {b : Sx} (h : SF K true t b) (hn : N.length = n + 2) {vs : List V} {H : Hp} {Q : VK} {E : XK}
    (p : SpS K (runS n b) vs H Q E) (z : ∀ ρ π ρ' π', b ρ π = some (ρ', π', .nx) → False) : t { nx := fun _ H' => Q .non H', rt := Q } (start N vs) H := by
  obtain ⟨a, ns, k, r, rfl, hq, e, q⟩ := p
  unfold runS at e
  cases eo : outOf (b (.scr ns :: .dat (.int k) :: List.replicate n .un) []) with
  | none => rw [eo] at e; cases e
  | some x =>
    rw [eo] at e
    have e1 : x.1 = r := by simpa using e
    obtain ⟨d1, π1⟩ := x
    subst e1
    have unO : ∀ {i : Nat} {s : Slot}, (List.replicate n Slot.un)[i]? = some s → s = .un := fun {i s} h2 => by
      obtain ⟨_, e⟩ := List.getElem?_eq_some_iff.mp h2
      simp at e
      exact e.symm
    have slots : ∀ {i : Nat} {s : Slot}, (Slot.scr ns :: Slot.dat (.int k) :: List.replicate n Slot.un)[i]? = some s → s.isOwn = false := fun {i s} e => by
      match i with
      | 0 => cases e; rfl
      | 1 => cases e; rfl
      | i + 2 => rw [unO e]; rfl
    have noOwn : ∀ b, ¬ IsOwn (L2.start N [.ref a, .int k]) (.scr ns :: .dat (.int k) :: List.replicate n .un) b := by
      rintro b ⟨i, s, e1, e2, _⟩
      rw [slots e1] at e2; cases e2
    have R : Rel K ⟨fun _ => False, none⟩ (L2.start N [.ref a, .int k]) H (.scr ns :: .dat (.int k) :: List.replicate n .un) [] := by
      refine ⟨by rw [start_len (by simp; omega)]; simp [hn], fun i s e => ?_, fun i j s t b e1 e2 o1 => (by rw [slots e1] at o1; cases o1), fun b y => y.elim, fun b y => (by cases y), fun b y => (noOwn b y).elim⟩
      match i with
      | 0 => cases e; exact ⟨a, rfl, hq, fun z => z.elim (fun z => by cases z) (noOwn a)⟩
      | 1 => cases e; exact ⟨.int k, rfl, .int k⟩
      | i + 2 => rw [unO e]; trivial
    rcases outOf_some eo with ⟨ρ', e2⟩ | ⟨ρ', e2, e3⟩
    · refine h.go ⟨fun _ => False, none⟩ _ H _ [] R ρ' π1 _ e2 _ fun v σ' H' R' s' rv => ?_
      refine q v H' (fun a o y => s'.keep a o (fun w => w.elim (fun w => by cases w) (noOwn a)) y) ?_
      unfold RV at rv
      rw [if_pos rfl] at rv
      obtain ⟨p, xs, es, e1, e2, e3, e4, e5, e6⟩ := rv
      exact ⟨p, xs, es, e1, e2, e3.elim (fun w => (noOwn p w).elim) id, e4, e5, e6⟩
    · exact (z _ _ _ _ e2).elim
/-! ### walks and parts of lists or tuples -/
def iAny (K : PySem.W.Frag) (tl : TE) : TI := fun σ H R => tl σ H fun x H1 => ∃ a, x = .ref a ∧ (((∃ xs, SqL K H1 a xs) ∧ R (Itl K a) H1) ∨ ((∃ xs, SqT K H1 a xs) ∧ R (Itt K a) H1))
theorem pi_any {X : Cx} {tg l : Expr} {tl : TE} (hl : PE X l tl) : PI X tg l (iAny X.K tl) := by
  refine ⟨fun pins s σ H R I h => ?_⟩
  refine thn (hl.run pins s σ H _ I h) fun v s1 ⟨x, H1, I1, r1, q1⟩ => ?_
  obtain ⟨a, e, q1⟩ := q1
  subst e
  cases r1
  have fin : ∀ b, b ∈ [s1.heap.objs.size] → FpOk X pins H1 b := fun b hb => by
    have e : b = s1.heap.objs.size := by simpa using hb
    subst e
    exact I1.fpOk (Nat.le_refl _) (I1.hok.fresh (Nat.le_refl _))
  rcases q1 with ⟨⟨xs, hq⟩, q⟩ | ⟨⟨xs, hq⟩, q⟩
  · obtain ⟨its, rv, p, hz⟩ := I1.list hq
    refine wpAny_pyIter_list p.isList ?_
    exact ⟨s1.heap.objs.size, [s1.heap.objs.size], _, _, H1, rfl, I1.kept (t' := s1.toks) fun b o e => Heap.get?_push_of_some _ e, turn_list a _, ⟨_, Heap.get?_push_size _ rfl, rfl, rfl⟩, fin, q⟩
  · obtain ⟨its, rv, p, hz⟩ := I1.tuple hq
    refine wpAny_pyIter_tuple (show s1.heap.IsTuple a its.toArray from p) ?_
    exact ⟨s1.heap.objs.size, [s1.heap.objs.size], _, _, H1, rfl, I1.kept (t' := s1.toks) fun b o e => Heap.get?_push_of_some _ e, turn_tuple a _, ⟨_, Heap.get?_push_size _ rfl, rfl, rfl⟩, fin, q⟩
def seqOf : D → Option (List D)
  | .list ds => some ds
  | .tuple ds => some ds
  | _ => none
@[simp] theorem seqOf_list (ds : List D) : seqOf (.list ds) = some ds := rfl
@[simp] theorem seqOf_tuple (ds : List D) : seqOf (.tuple ds) = some ds := rfl
@[simp] def iA (f : Ex) : Ax := fun ρ π => (f ρ π).bind fun x => (seqOf x.1).map fun ds => (ds, x.2)
theorem if_any {t : TE} {f : Ex} (h : YF K t f) : IF K false (iAny K t) (iA f) := by
  refine ⟨fun fr σ H ρ π R ds π' e Q q => ?_⟩
  unfold iA at e
  cases ea : f ρ π with
  | none => rw [ea] at e; cases e
  | some x =>
    rw [ea] at e
    simp only [Option.bind_some] at e
    cases ed : seqOf x.1 with
    | none => rw [ed] at e; cases e
    | some z =>
      rw [ed] at e; cases e
      refine h.go fr σ H ρ π R x.1 x.2 ea _ fun v H' R' c l t => ?_
      unfold seqOf at ed
      split at ed
      · rename_i ds' hx
        cases ed
        obtain ⟨a, xs, rfl, p⟩ := l _ hx
        exact ⟨a, rfl, .inl ⟨⟨xs, sqL p.1⟩, q _ _ H' R' c itl_ok p⟩⟩
      · rename_i ds' hx
        cases ed
        obtain ⟨a, xs, rfl, p⟩ := t _ hx
        exact ⟨a, rfl, .inr ⟨⟨xs, p.1.sq⟩, q _ _ H' R' c itt_ok p⟩⟩
      · cases ed
def rSlX (K : PySem.W.Frag) : V → Option Int → Option Int → Hp → VK → Prop := fun x lo hi H Q => rSlL K x lo hi H Q ∨ rSlF K x lo hi H Q
theorem sl_any {X : Cx} : SlR X (rSlX X.K) := by
  intro pins s σ H x v vl vu lo hi sl Q I rx hs pl pu q
  rcases q with q | q
  · exact sl_list pins s σ H x v vl vu lo hi sl Q I rx hs pl pu q
  · exact sl_tupF pins s σ H x v vl vu lo hi sl Q I rx hs pl pu q
@[simp] def cutA : SlF := fun x lo hi => match x with
  | .list ds => some (.list (cutD ds lo hi))
  | .tuple ds => some (.tuple (cutD ds lo hi))
  | _ => none
theorem sf_any : SF3 K (rSlX K) cutA := ⟨fun fr H S al x dx lo hi hx d e Q q => by
  unfold cutA at e
  split at e
  · exact .inl (sn_list.of.go fr H S al x _ lo hi hx d (by unfold cutL; exact e) Q q)
  · exact .inr (sf_tup.go fr H S al x _ lo hi hx d (by unfold cutT; exact e) Q q)
  · cases e⟩
theorem sn_any : SN3 K (rSlX K) cutL := ⟨fun fr H S al x dx lo hi hx d e Q q => .inl (sn_list.go fr H S al x dx lo hi hx d e Q q)⟩
/-! ### simp rules -/
@[simp] theorem sIx_no (n d : Nat) : HT.sIx n d none = d := rfl
@[simp] theorem sIx_nn (n d : Nat) {v : Int} (h : 0 ≤ v) : HT.sIx n d (some v) = min v.toNat n := by
  show (if v < 0 then _ else _) = _
  rw [if_neg (by omega)]

@[simp] theorem eqv_int (a b : Int) : PyData.eqv (.int a) (.int b) = decide (a = b) := by
  simp only [PyData.eqv]
  by_cases h : a = b
  · simp [h]
  · rw [decide_eq_false h]; exact beq_eq_false_iff_ne.mpr h
theorem eqv_nat (a b : Nat) : PyData.eqv (.int a) (.int b) = decide (a = b) := by
  rw [eqv_int]
  by_cases h : a = b
  · simp [h]
  · rw [decide_eq_false h, decide_eq_false (by omega)]
@[simp] theorem eqv_non : PyData.eqv .none .none = true := by simp [PyData.eqv]
@[simp] theorem eqv_bool (a b : Bool) : PyData.eqv (.bool a) (.bool b) = (a == b) := by simp [PyData.eqv]
@[simp] theorem shp_int (i : Int) : SeqAt.shaped (.int i) = true := by simp [SeqAt.shaped, PyData.canLay0, PyData.depth]
@[simp] theorem shp_non : SeqAt.shaped .none = true := by simp [SeqAt.shaped, PyData.canLay0, PyData.depth]
@[simp] theorem shp_bool (b : Bool) : SeqAt.shaped (.bool b) = true := by simp [SeqAt.shaped, PyData.canLay0, PyData.depth]
/-- a comprehension that asks each item the same, whatever the pot -/
theorem lcGo_map {tg : Gx} {tt : Tx} {el : Ex} {ρw : En} {π : Pot} (f : D → D) : ∀ ds : List D, (∀ d ∈ ds, ∃ ρ2, tg d ρw = some ρ2 ∧ tt ρ2 π = some (true, π) ∧ el ρ2 π = some (f d, π)) → lcGo tg tt el ρw ds π = some (ds.map f, π)
  | [], _ => rfl
  | d :: ds, h => by
    obtain ⟨ρ2, e1, e2, e3⟩ := h d List.mem_cons_self
    unfold lcGo
    rw [e1]
    simp only [Option.bind_some]
    rw [e2]
    simp only [Option.bind_some, if_true]
    rw [e3]
    simp only [Option.bind_some]
    rw [lcGo_map f ds fun d hd => h d (List.mem_cons_of_mem _ hd)]
    rfl
/-- with a test -/
theorem lcGo_filter {tg : Gx} {tt : Tx} {el : Ex} {ρw : En} {π : Pot} (p : D → Bool) (f : D → D) : ∀ ds : List D, (∀ d ∈ ds, ∃ ρ2, tg d ρw = some ρ2 ∧ tt ρ2 π = some (p d, π) ∧ (p d = true → el ρ2 π = some (f d, π))) → lcGo tg tt el ρw ds π = some ((ds.filter p).map f, π)
  | [], _ => rfl
  | d :: ds, h => by
    obtain ⟨ρ2, e1, e2, e3⟩ := h d List.mem_cons_self
    have ih := lcGo_filter p f ds fun d hd => h d (List.mem_cons_of_mem _ hd)
    unfold lcGo
    rw [e1]
    simp only [Option.bind_some]
    rw [e2]
    simp only [Option.bind_some]
    by_cases c : p d = true
    · rw [if_pos c, e3 c]
      simp only [Option.bind_some]
      rw [ih, List.filter_cons_of_pos c]
      rfl
    · rw [if_neg c, ih, List.filter_cons_of_neg c]
/-- a loop that keeps what is told of it -/
theorem forGo_inv {tg : Gx} {b : Sx} (I : Nat → En → Pot → Prop) (ds : List D) (h : ∀ (i : Nat) (d : D) (ρ : En) (π : Pot), ds[i]? = some d → I i ρ π → ∃ ρ1 ρ2 π2, tg d ρ = some ρ1 ∧ (b ρ1 π = some (ρ2, π2, .nx) ∨ b ρ1 π = some (ρ2, π2, .ct)) ∧ I (i + 1) ρ2 π2) {ρ : En} {π : Pot} (h0 : I 0 ρ π) :
    ∃ ρ' π', forGo tg b ds ρ π = some (ρ', π', .nx) ∧ I ds.length ρ' π' := by
  have main : ∀ (n k : Nat) (ρ : En) (π : Pot), n = ds.length - k → k ≤ ds.length → I k ρ π → ∃ ρ' π', forGo tg b (ds.drop k) ρ π = some (ρ', π', .nx) ∧ I ds.length ρ' π' := by
    intro n
    induction n with
    | zero =>
      intro k ρ π e l hk
      have : k = ds.length := by omega
      subst this
      rw [List.drop_length]
      exact ⟨ρ, π, rfl, hk⟩
    | succ n ih =>
      intro k ρ π e l hk
      have lt : k < ds.length := by omega
      obtain ⟨d, ed, edr⟩ := drop_at lt
      rw [edr]
      obtain ⟨ρ1, ρ2, π2, e1, e2, h2⟩ := h k d ρ π ed hk
      obtain ⟨ρ', π', e3, h3⟩ := ih (k + 1) ρ2 π2 (by omega) (by omega) h2
      refine ⟨ρ', π', ?_, h3⟩
      unfold forGo
      rw [e1]
      simp only [Option.bind_some]
      rcases e2 with e2 | e2 <;> rw [e2] <;> simp only [Option.bind_some] <;> exact e3
  obtain ⟨ρ', π', e, h2⟩ := main _ 0 ρ π rfl (Nat.zero_le _) h0
  exact ⟨ρ', π', e, h2⟩
theorem cut_take {α : Type} (xs : List α) (a : Nat) (h : a ≤ xs.length) : cutD xs none (some (a : Int)) = xs.take a := by
  simp [cutD]
theorem cut_drop {α : Type} (xs : List α) (a : Nat) (h : a ≤ xs.length) : cutD xs (some (a : Int)) none = xs.drop a := by
  unfold cutD
  rw [sIx_no, sIx_nn _ _ (by omega)]
  rw [show min (Int.toNat (a : Int)) xs.length = a by omega]
  exact List.take_of_length_le (by rw [List.length_drop]; omega)
theorem cut_one {α : Type} (xs : List α) (a : Nat) (h : a < xs.length) : cutD xs (some (a : Int)) (some ((a : Int) + 1)) = [xs[a]] := by
  unfold cutD
  rw [sIx_nn _ _ (by omega), sIx_nn _ _ (by omega)]
  rw [show min (Int.toNat (a : Int)) xs.length = a by omega, show min (Int.toNat ((a : Int) + 1)) xs.length = a + 1 by omega]
  rw [List.drop_eq_getElem_cons h, show a + 1 - a = 1 by omega]
  rfl
/-- a loop that asks each item the same and ends with c at the first that fails -/
theorem forGo_search {tg : Gx} {b : Sx} {π : Pot} (P : En → Prop) (p : D → Bool) (c : D) (h : ∀ ρ d, P ρ → ∃ ρ1, tg d ρ = some ρ1 ∧ ((p d = true ∧ ∃ ρ2, b ρ1 π = some (ρ2, π, .nx) ∧ P ρ2) ∨ (p d = false ∧ ∃ ρ2, b ρ1 π = some (ρ2, π, .rt c)))) :
    ∀ (ds : List D) (ρ : En), P ρ → ∃ ρ', forGo tg b ds ρ π = some (ρ', π, if ds.all p = true then .nx else .rt c) ∧ (ds.all p = true → P ρ')
  | [], ρ, hp => ⟨ρ, rfl, fun _ => hp⟩
  | d :: ds, ρ, hp => by
    obtain ⟨ρ1, e1, h1⟩ := h ρ d hp
    unfold forGo
    rw [e1]
    simp only [Option.bind_some]
    rcases h1 with ⟨hd, ρ2, e2, hp2⟩ | ⟨hd, ρ2, e2⟩
    · rw [e2]
      simp only [Option.bind_some]
      obtain ⟨ρ', e3, e4⟩ := forGo_search P p c h ds ρ2 hp2
      refine ⟨ρ', ?_, ?_⟩
      · rw [e3, List.all_cons, hd, Bool.true_and]
      · rw [List.all_cons, hd, Bool.true_and]; exact e4
    · rw [e2]
      simp only [Option.bind_some]
      refine ⟨ρ2, ?_, ?_⟩
      · rw [List.all_cons, hd, Bool.false_and]; rfl
      · rw [List.all_cons, hd, Bool.false_and]; intro z; cases z
theorem boolsO_map (f : D → Bool) : ∀ ds : List D, boolsO (ds.map fun d => .bool (f d)) = some (ds.map f)
  | [] => rfl
  | d :: ds => by
    show (boolsO (ds.map fun d => .bool (f d))).map _ = _
    rw [boolsO_map f ds]; rfl
theorem atI_of {α : Type} {xs : List α} {i : Int} {j : Nat} (h : i = j) : atI xs i = xs[j]? := by
  subst h
  unfold atI ixN
  rw [if_pos (by omega)]
  by_cases c : (j : Int) < (xs.length : Int)
  · rw [if_pos c]; simp
  · rw [if_neg c]
    exact (List.getElem?_eq_none (by omega)).symm
@[simp] theorem atI_0 {α : Type} (x0 : α) (r : List α) : atI (x0 :: r) 0 = some x0 := atI_of (j := 0) rfl
@[simp] theorem atI_1 {α : Type} (x0 x1 : α) (r : List α) : atI (x0 :: x1 :: r) 1 = some x1 := atI_of (j := 1) rfl
@[simp] theorem atI_2 {α : Type} (x0 x1 x2 : α) (r : List α) : atI (x0 :: x1 :: x2 :: r) 2 = some x2 := atI_of (j := 2) rfl
@[simp] theorem atI_3 {α : Type} (x0 x1 x2 x3 : α) (r : List α) : atI (x0 :: x1 :: x2 :: x3 :: r) 3 = some x3 := atI_of (j := 3) rfl
@[simp] theorem atI_4 {α : Type} (x0 x1 x2 x3 x4 : α) (r : List α) : atI (x0 :: x1 :: x2 :: x3 :: x4 :: r) 4 = some x4 := atI_of (j := 4) rfl
@[simp] theorem atI_5 {α : Type} (x0 x1 x2 x3 x4 x5 : α) (r : List α) : atI (x0 :: x1 :: x2 :: x3 :: x4 :: x5 :: r) 5 = some x5 := atI_of (j := 5) rfl
@[simp] theorem atI_6 {α : Type} (x0 x1 x2 x3 x4 x5 x6 : α) (r : List α) : atI (x0 :: x1 :: x2 :: x3 :: x4 :: x5 :: x6 :: r) 6 = some x6 := atI_of (j := 6) rfl
@[simp] theorem atI_7 {α : Type} (x0 x1 x2 x3 x4 x5 x6 x7 : α) (r : List α) : atI (x0 :: x1 :: x2 :: x3 :: x4 :: x5 :: x6 :: x7 :: r) 7 = some x7 := atI_of (j := 7) rfl
@[simp] theorem atI_8 {α : Type} (x0 x1 x2 x3 x4 x5 x6 x7 x8 : α) (r : List α) : atI (x0 :: x1 :: x2 :: x3 :: x4 :: x5 :: x6 :: x7 :: x8 :: r) 8 = some x8 := atI_of (j := 8) rfl
@[simp] theorem atI_9 {α : Type} (x0 x1 x2 x3 x4 x5 x6 x7 x8 x9 : α) (r : List α) : atI (x0 :: x1 :: x2 :: x3 :: x4 :: x5 :: x6 :: x7 :: x8 :: x9 :: r) 9 = some x9 := atI_of (j := 9) rfl
@[simp] theorem isiB_int_none : isiB "int" (.none) = false := rfl
@[simp] theorem isiB_int_bool (b : Bool) : isiB "int" (.bool b) = true := rfl
@[simp] theorem isiB_int_int (i : Int) : isiB "int" (.int i) = true := rfl
@[simp] theorem isiB_int_str (s : Str) : isiB "int" (.str s) = false := rfl
@[simp] theorem isiB_int_list (xs : List D) : isiB "int" (.list xs) = false := rfl
@[simp] theorem isiB_int_tuple (xs : List D) : isiB "int" (.tuple xs) = false := rfl
@[simp] theorem isiB_int_dict (k : List (D × D)) : isiB "int" (.dict k) = false := rfl
@[simp] theorem isiB_bool_none : isiB "bool" (.none) = false := rfl
@[simp] theorem isiB_bool_bool (b : Bool) : isiB "bool" (.bool b) = true := rfl
@[simp] theorem isiB_bool_int (i : Int) : isiB "bool" (.int i) = false := rfl
@[simp] theorem isiB_bool_str (s : Str) : isiB "bool" (.str s) = false := rfl
@[simp] theorem isiB_bool_list (xs : List D) : isiB "bool" (.list xs) = false := rfl
@[simp] theorem isiB_bool_tuple (xs : List D) : isiB "bool" (.tuple xs) = false := rfl
@[simp] theorem isiB_bool_dict (k : List (D × D)) : isiB "bool" (.dict k) = false := rfl
@[simp] theorem isiB_str_none : isiB "str" (.none) = false := rfl
@[simp] theorem isiB_str_bool (b : Bool) : isiB "str" (.bool b) = false := rfl
@[simp] theorem isiB_str_int (i : Int) : isiB "str" (.int i) = false := rfl
@[simp] theorem isiB_str_str (s : Str) : isiB "str" (.str s) = true := rfl
@[simp] theorem isiB_str_list (xs : List D) : isiB "str" (.list xs) = false := rfl
@[simp] theorem isiB_str_tuple (xs : List D) : isiB "str" (.tuple xs) = false := rfl
@[simp] theorem isiB_str_dict (k : List (D × D)) : isiB "str" (.dict k) = false := rfl
@[simp] theorem isiB_list_none : isiB "list" (.none) = false := rfl
@[simp] theorem isiB_list_bool (b : Bool) : isiB "list" (.bool b) = false := rfl
@[simp] theorem isiB_list_int (i : Int) : isiB "list" (.int i) = false := rfl
@[simp] theorem isiB_list_str (s : Str) : isiB "list" (.str s) = false := rfl
@[simp] theorem isiB_list_list (xs : List D) : isiB "list" (.list xs) = true := rfl
@[simp] theorem isiB_list_tuple (xs : List D) : isiB "list" (.tuple xs) = false := rfl
@[simp] theorem isiB_list_dict (k : List (D × D)) : isiB "list" (.dict k) = false := rfl
@[simp] theorem isiB_tuple_none : isiB "tuple" (.none) = false := rfl
@[simp] theorem isiB_tuple_bool (b : Bool) : isiB "tuple" (.bool b) = false := rfl
@[simp] theorem isiB_tuple_int (i : Int) : isiB "tuple" (.int i) = false := rfl
@[simp] theorem isiB_tuple_str (s : Str) : isiB "tuple" (.str s) = false := rfl
@[simp] theorem isiB_tuple_list (xs : List D) : isiB "tuple" (.list xs) = false := rfl
@[simp] theorem isiB_tuple_tuple (xs : List D) : isiB "tuple" (.tuple xs) = true := rfl
@[simp] theorem isiB_tuple_dict (k : List (D × D)) : isiB "tuple" (.dict k) = false := rfl
@[simp] theorem isiB_dict_none : isiB "dict" (.none) = false := rfl
@[simp] theorem isiB_dict_bool (b : Bool) : isiB "dict" (.bool b) = false := rfl
@[simp] theorem isiB_dict_int (i : Int) : isiB "dict" (.int i) = false := rfl
@[simp] theorem isiB_dict_str (s : Str) : isiB "dict" (.str s) = false := rfl
@[simp] theorem isiB_dict_list (xs : List D) : isiB "dict" (.list xs) = false := rfl
@[simp] theorem isiB_dict_tuple (xs : List D) : isiB "dict" (.tuple xs) = false := rfl
@[simp] theorem isiB_dict_dict (k : List (D × D)) : isiB "dict" (.dict k) = true := rfl
theorem okEAll_all (f : Nat) : ∀ xs : List D, okEAll f xs = xs.all (okE f)
  | [] => rfl
  | x :: xs => by
    show (okE f x && okEAll f xs) = _
    rw [okEAll_all f xs, List.all_cons]
theorem nodesAll_append : ∀ xs ys : List D, nodesAll (xs ++ ys) = nodesAll xs + nodesAll ys
  | [], ys => by simp [nodesAll]
  | x :: xs, ys => by
    show nodes x + nodesAll (xs ++ ys) = nodes x + nodesAll xs + nodesAll ys
    rw [nodesAll_append xs ys]; omega
theorem nodes_pos (d : D) : 1 ≤ nodes d := by cases d <;> simp [nodes]
theorem len_nodes : ∀ xs : List D, xs.length ≤ nodesAll xs
  | [] => Nat.zero_le _
  | x :: xs => by
    have := len_nodes xs
    have := nodes_pos x
    show xs.length + 1 ≤ nodes x + nodesAll xs
    omega
theorem nodes_split {xs : List D} {a : Nat} (h : a < xs.length) : nodesAll (xs.take a) + nodes xs[a] + nodesAll (xs.drop (a + 1)) = nodesAll xs := by
  have e : xs = xs.take a ++ (xs[a] :: xs.drop (a + 1)) := by rw [← List.drop_eq_getElem_cons h, List.take_append_drop]
  have e2 := congrArg nodesAll e
  rw [nodesAll_append] at e2
  have e3 : nodesAll (xs[a] :: xs.drop (a + 1)) = nodes xs[a] + nodesAll (xs.drop (a + 1)) := rfl
  omega
theorem okE_mono : ∀ (f g : Nat) (d : D), f ≤ g → okE f d = true → okE g d = true := by
  intro f
  induction f with
  | zero =>
    intro g d l h
    cases d <;> first | (cases g <;> first | exact h | (simp [okE] at h ⊢; done) | (simpa [okE] using h)) | (simp [okE] at h)
  | succ f ih =>
    intro g d l h
    obtain ⟨g, rfl⟩ : ∃ k, g = k + 1 := ⟨g - 1, by omega⟩
    cases d with
    | list xs =>
      have h1 : okEAll f xs = true := h
      show okEAll g xs = true
      rw [okEAll_all] at h1 ⊢
      exact List.all_eq_true.mpr fun x hx => ih g x (by omega) (List.all_eq_true.mp h1 x hx)
    | tuple xs =>
      have h1 : okEAll f xs = true := h
      show okEAll g xs = true
      rw [okEAll_all] at h1 ⊢
      exact List.all_eq_true.mpr fun x hx => ih g x (by omega) (List.all_eq_true.mp h1 x hx)
    | dict k => simp [okE] at h
    | _ => simpa [okE] using h
/-! ### arguments by name -/
def PA1 (K : PySem.W.Frag) (fr : Fm) (H : Hp) (S : Addr → Prop) (k : Bool) (v : V) (d : D) : Prop := if k = true then Db K fr H S v d else Dv K H S v d
theorem argA0 {fr : Fm} {H : Hp} {S : Addr → Prop} {vs : List V} {ds : List D} (h : ArgA K fr H S [] vs ds) : vs = [] ∧ ds = [] := by
  match vs, ds, h with
  | [], [], _ => exact ⟨rfl, rfl⟩
theorem argAC {fr : Fm} {H : Hp} {S : Addr → Prop} {k : Bool} {ks : List Bool} {vs : List V} {ds : List D} (h : ArgA K fr H S (k :: ks) vs ds) : ∃ v vr d dr, vs = v :: vr ∧ ds = d :: dr ∧ PA1 K fr H S k v d ∧ ArgA K fr H S ks vr dr := by
  match vs, ds, h with
  | v :: vr, d :: dr, h => exact ⟨v, vr, d, dr, rfl, rfl, h.1, h.2⟩
theorem argA1 {fr : Fm} {H : Hp} {S : Addr → Prop} {k0 : Bool} {vs : List V} {ds : List D} (h : ArgA K fr H S [k0] vs ds) : ∃ v0 d0, vs = [v0] ∧ ds = [d0] ∧ PA1 K fr H S k0 v0 d0 := by
  obtain ⟨v, vr, d, dr, rfl, rfl, a, r⟩ := argAC h
  obtain ⟨rfl, rfl⟩ := argA0 r
  exact ⟨v, d, rfl, rfl, a⟩
theorem argA2 {fr : Fm} {H : Hp} {S : Addr → Prop} {k0 k1 : Bool} {vs : List V} {ds : List D} (h : ArgA K fr H S [k0, k1] vs ds) : ∃ v0 v1 d0 d1, vs = [v0, v1] ∧ ds = [d0, d1] ∧ PA1 K fr H S k0 v0 d0 ∧ PA1 K fr H S k1 v1 d1 := by
  obtain ⟨v, vr, d, dr, rfl, rfl, a, r⟩ := argAC h
  obtain ⟨v1, d1, rfl, rfl, a1⟩ := argA1 r
  exact ⟨v, v1, d, d1, rfl, rfl, a, a1⟩
theorem argA3 {fr : Fm} {H : Hp} {S : Addr → Prop} {k0 k1 k2 : Bool} {vs : List V} {ds : List D} (h : ArgA K fr H S [k0, k1, k2] vs ds) : ∃ v0 v1 v2 d0 d1 d2, vs = [v0, v1, v2] ∧ ds = [d0, d1, d2] ∧ PA1 K fr H S k0 v0 d0 ∧ PA1 K fr H S k1 v1 d1 ∧ PA1 K fr H S k2 v2 d2 := by
  obtain ⟨v, vr, d, dr, rfl, rfl, a, r⟩ := argAC h
  obtain ⟨v1, v2, d1, d2, rfl, rfl, a1, a2⟩ := argA2 r
  exact ⟨v, v1, v2, d, d1, d2, rfl, rfl, a, a1, a2⟩
theorem argA4 {fr : Fm} {H : Hp} {S : Addr → Prop} {k0 k1 k2 k3 : Bool} {vs : List V} {ds : List D} (h : ArgA K fr H S [k0, k1, k2, k3] vs ds) : ∃ v0 v1 v2 v3 d0 d1 d2 d3, vs = [v0, v1, v2, v3] ∧ ds = [d0, d1, d2, d3] ∧ PA1 K fr H S k0 v0 d0 ∧ PA1 K fr H S k1 v1 d1 ∧ PA1 K fr H S k2 v2 d2 ∧ PA1 K fr H S k3 v3 d3 := by
  obtain ⟨v, vr, d, dr, rfl, rfl, a, r⟩ := argAC h
  obtain ⟨v1, v2, v3, d1, d2, d3, rfl, rfl, a1, a2, a3⟩ := argA3 r
  exact ⟨v, v1, v2, v3, d, d1, d2, d3, rfl, rfl, a, a1, a2, a3⟩
theorem argA5 {fr : Fm} {H : Hp} {S : Addr → Prop} {k0 k1 k2 k3 k4 : Bool} {vs : List V} {ds : List D} (h : ArgA K fr H S [k0, k1, k2, k3, k4] vs ds) : ∃ v0 v1 v2 v3 v4 d0 d1 d2 d3 d4, vs = [v0, v1, v2, v3, v4] ∧ ds = [d0, d1, d2, d3, d4] ∧ PA1 K fr H S k0 v0 d0 ∧ PA1 K fr H S k1 v1 d1 ∧ PA1 K fr H S k2 v2 d2 ∧ PA1 K fr H S k3 v3 d3 ∧ PA1 K fr H S k4 v4 d4 := by
  obtain ⟨v, vr, d, dr, rfl, rfl, a, r⟩ := argAC h
  obtain ⟨v1, v2, v3, v4, d1, d2, d3, d4, rfl, rfl, a1, a2, a3, a4⟩ := argA4 r
  exact ⟨v, v1, v2, v3, v4, d, d1, d2, d3, d4, rfl, rfl, a, a1, a2, a3, a4⟩
end FL

noncomputable section
namespace FL
open PySem PySem.Spec PyProof.Rows L2 EP
variable {K : PySem.W.Frag}
/-! ### xs[i] += e -/
theorem get_listG {X : Cx} : PGet X (rIxL X.K) := by
  intro pins s σ H x y v u Q I rx ry h
  obtain ⟨p, xs, i, z, rfl, rfl, hq, he, q⟩ := h
  cases rx
  obtain ⟨t, rfl⟩ := ry
  obtain ⟨its, r, pl, hz⟩ := I.list hq
  obtain ⟨j, h1, h2, h3, h4, h5⟩ := atI_get he
  obtain ⟨w, ew, rw'⟩ := r.get h2
  have hl := r.length
  have hn := line63
  have fin : EP X pins σ Q w s := ⟨z, H, I, rw', q⟩
  by_cases h0 : 0 ≤ i
  · have hj : i.toNat = j := by
      rw [seqIndex_of h0 h5] at h1
      exact Option.some.inj h1
    exact wpAny_getItem_list pl.isList h0 (by omega) (by rw [hj]; simpa using ew) fin
  · have hj : (i + (its.toArray.size : Int)).toNat = j := by
      rw [seqIndex_neg (by omega) h4] at h1
      rw [List.size_toArray, ← hl]
      exact Option.some.inj h1
    exact wpAny_getItem_list_neg pl.isList (by omega) (by rw [List.size_toArray] <;> omega) (by omega) (by rw [hj]; simpa using ew) fin
@[simp] def sAugS (i : Nat) (F : F2) (g f : Ex) : Sx := fun ρ π => (g ρ π).bind fun z => match ρ[i]?, z.1 with
  | some (.own ds), .int k => (atI ds k).bind fun x => (f ρ z.2).bind fun y => (F x y.1).bind fun w => (ixN ds.length k).map fun j => (ρ.set i (.own (ds.set j w)), y.2, .nx)
  | _, _ => none
theorem sf_augS {nw : Bool} {i : Nat} {te ti : TE} {r : TIp} {F : F2} {f g : Ex} (hg : BF K ti g) (hF : OF K r F) (h : BF K te f) : SF K nw (tAugS (tVar i) ti te (rIxL K) r rSetL) (sAugS i F g f) := by
  refine ⟨fun fr σ H ρ π R ρ' π' o e D q => ?_⟩
  unfold sAugS at e
  cases eg : g ρ π with
  | none => rw [eg] at e; cases e
  | some z =>
    rw [eg] at e
    simp only [Option.bind_some] at e
    split at e
    · rename_i ds k hs hk
      cases ex : atI ds k with
      | none => rw [ex] at e; cases e
      | some x =>
        rw [ex] at e
        simp only [Option.bind_some] at e
        cases ef : f ρ z.2 with
        | none => rw [ef] at e; cases e
        | some y =>
          rw [ef] at e
          simp only [Option.bind_some] at e
          cases ew : F x y.1 with
          | none => rw [ew] at e; cases e
          | some w =>
            rw [ew] at e
            simp only [Option.bind_some] at e
            cases ej : ixN ds.length k with
            | none => rw [ej] at e; cases e
            | some j =>
              rw [ej] at e
              cases e
              obtain ⟨a, xs, ev, ea, dv⟩ := R.slot i _ hs
              refine ⟨_, ev, ?_⟩
              refine hg.go fr σ H ρ π R z.1 z.2 eg _ fun iv H1 R1 c1 b1 => ?_
              rw [hk] at b1
              obtain rfl := b1.int
              obtain ⟨a1, xs1, ev1, ea1, dv1⟩ := R1.slot i _ hs
              rw [ev] at ev1
              cases ev1
              obtain ⟨v, e1, dvx⟩ := atI_dv dv1 ex
              refine ⟨a, xs1, k, v, rfl, rfl, sqL ea1, e1, ?_⟩
              refine h.go fr σ H1 ρ z.2 R1 y.1 y.2 ef _ fun u H2 R2 c2 b2 => ?_
              refine hF.go fr H2 _ R2.sA v u x y.1 (.inl (dvx.step R1.us (c2.step σ ρ))) b2 w ew _ fun n H3 k3 dz => ?_
              have R3 := R2.kp k3
              obtain ⟨a3, xs3, ev3, ea3, dv3⟩ := R3.slot i _ hs
              rw [ev] at ev3
              cases ev3
              have oa : IsOwn σ ρ a := ⟨i, _, hs, rfl, ev⟩
              refine ⟨a, xs3, k, j, rfl, rfl, ea3, by rw [dv3.length]; exact ej, ?_⟩
              have upq : Step ⟨fun b => b = a, (wd fr σ ρ H3).S, H3⟩ ⟨fun b => b = a, (wd fr σ ρ H3).S, upd H3 a (.lst (xs3.set j n))⟩ :=
                ⟨fun b u n z => by show L2.upd H3 a _ b = _; rw [upd_ne n]; exact z, fun b z => .inl z, fun b z => .inl z⟩
              have us2 : ∀ b, b = a → (wd fr σ ρ H3).S b := fun b z => .inr (by rw [z]; exact oa)
              obtain ⟨R4, s4⟩ := R3.put (o := .lst (xs3.set j n)) (s' := .own (ds.set j w)) hs rfl rfl ev ⟨a, xs3.set j n, ev, upd_same, (dv3.set dz j).step (A := ⟨fun b => b = a, (wd fr σ ρ H3).S, H3⟩) us2 upq⟩
              exact q σ _ R4 ((((c1.trans c2).trans (.of k3)).step σ ρ).trans R.us s4)
    · cases e
/-! ### range with a step -/
theorem dbA3 {fr : Fm} {H : Hp} {S : Addr → Prop} {vs : List V} {d e f : D} (h : DbA K fr H S vs [d, e, f]) : ∃ v w u, vs = [v, w, u] ∧ Db K fr H S v d ∧ Db K fr H S w e ∧ Db K fr H S u f := by
  match vs, h with
  | [v, w, u], h => exact ⟨v, w, u, rfl, h.1, h.2.1, h.2.2.1⟩
def r3Ok (i j c : Int) : Bool := cdec ((-(2 ^ 62) ≤ i ∧ i < 2 ^ 62) ∧ (-(2 ^ 62) ≤ j ∧ j < 2 ^ 62) ∧ c ≠ 0 ∧ -1073741824 < c ∧ c < 1073741824)
def n3 (i j c : Int) : Nat := (Builtin.Range.rangeSize i j c).toNat
def rg3 (i j c : Int) : List D := (List.range (n3 i j c)).map fun (k : Nat) => .int (i + (k : Int) * c)
theorem rg3_get {i j c : Int} {k : Nat} {d : D} (h : (rg3 i j c)[k]? = some d) : k < n3 i j c ∧ d = .int (i + (k : Int) * c) := by
  unfold rg3 at h
  rw [List.getElem?_map] at h
  cases e : (List.range (n3 i j c))[k]? with
  | none => rw [e] at h; cases h
  | some y =>
    rw [e] at h
    cases h
    obtain ⟨l, e2⟩ := List.getElem?_eq_some_iff.mp e
    rw [List.getElem_range] at e2
    subst e2
    exact ⟨by simpa using l, rfl⟩
theorem rg3_length (i j c : Int) : (rg3 i j c).length = n3 i j c := by simp [rg3]
theorem size_bounds {i j c : Int} (hi : -(2 ^ 62) ≤ i ∧ i < 2 ^ 62) (hj : -(2 ^ 62) ≤ j ∧ j < 2 ^ 62) (c0 : c ≠ 0) : 0 ≤ Builtin.Range.rangeSize i j c ∧ Builtin.Range.rangeSize i j c < 2 ^ 63 := by
  unfold Builtin.Range.rangeSize
  split
  · split
    · have a := Int.ediv_nonneg (show 0 ≤ j - i - 1 by omega) (show 0 ≤ c by omega)
      have b := Int.ediv_le_self c (show 0 ≤ j - i - 1 by omega)
      omega
    · omega
  · split
    · have a := Int.ediv_nonneg (show 0 ≤ i - j - 1 by omega) (show 0 ≤ -c by omega)
      have b := Int.ediv_le_self (-c) (show 0 ≤ i - j - 1 by omega)
      omega
    · omega
theorem r3_ok {i j c : Int} (h : r3Ok i j c = true) : RgC i j c (n3 i j c) := by
  obtain ⟨hi, hj, c0, c1, c2⟩ := of_cdec h
  obtain ⟨s0, s1⟩ := size_bounds hi hj c0
  refine ⟨c0, by omega, ?_, by unfold n3; omega⟩
  unfold Builtin.Range.small
  simp only [Builtin.Range.rangeFitsLong, Bool.and_eq_true, Bool.or_eq_true, decide_eq_true_eq, beq_iff_eq]
  refine ⟨⟨⟨⟨by omega, by omega⟩, by omega⟩, by omega⟩, .inr ?_⟩
  split <;> (simp only [Bool.and_eq_true, decide_eq_true_eq]; omega)
theorem itc_ok {i j c : Int} : ItOk K false (Itc i c (n3 i j c)) (fun _ => True) (rg3 i j c) := by
  refine ⟨fun A B us h x => trivial, fun k A h l => (by rw [rg3_length] at l; exact l), fun k d A al h e => ?_⟩
  obtain ⟨l, rfl⟩ := rg3_get e
  refine ⟨l, fun x H' y => ?_⟩
  obtain ⟨e1, e2⟩ := y
  subst e1; subst e2
  exact ⟨Kp.refl _, .inl (.int _)⟩
@[simp] def rg3F : List D → Option (List D)
  | [.int i, .int j, .int c] => if r3Ok i j c = true then some (rg3 i j c) else none
  | _ => none
@[simp] def iR3 (a : Ax) : Ax := fun ρ π => (a ρ π).bind fun x => (rg3F x.1).map fun ds => (ds, x.2)
theorem iR3_some {a : Ax} {ρ : En} {π : Pot} {ds : List D} {π' : Pot} (e : iR3 a ρ π = some (ds, π')) : ∃ es, a ρ π = some (es, π') ∧ rg3F es = some ds := by
  unfold iR3 at e
  cases ea : a ρ π with
  | none => rw [ea] at e; cases e
  | some x =>
    rw [ea] at e
    simp only [Option.bind_some] at e
    cases ed : rg3F x.1 with
    | none => rw [ed] at e; cases e
    | some z => rw [ed] at e; cases e; exact ⟨x.1, rfl, ed⟩
theorem if_rng3 {t u z : TE} {a b c : Ex} (h : BF K t a) (h2 : BF K u b) (h3 : BF K z c) : IF K false (iRng3 (tCons t (tCons u (tCons z tNil)))) (iR3 (aCons a (aCons b (aCons c aNil)))) := by
  refine ⟨fun fr σ H ρ π R ds π' e Q q => ?_⟩
  obtain ⟨es, ea, ed⟩ := iR3_some e
  obtain ⟨d, π1, es2, e1, e2, rfl⟩ := aCons_some ea
  obtain ⟨d2, π2, es3, e3, e4, rfl⟩ := aCons_some e2
  obtain ⟨d3, π3, es4, e5, e6, rfl⟩ := aCons_some e4
  cases e6
  refine (ab_cons h (ab_cons h2 (ab_cons h3 ab_nil))).go fr σ H ρ π R _ π' ea _ fun vs H' R' cc b => ?_
  unfold rg3F at ed
  split at ed
  · rename_i i j k he
    cases he
    split at ed
    · rename_i ok
      cases ed
      obtain ⟨v, w, y, rfl, h1, h2, h3⟩ := dbA3 b
      obtain rfl := h1.int
      obtain rfl := h2.int
      obtain rfl := h3.int
      exact ⟨i, j, k, n3 i j k, rfl, r3_ok ok, q _ _ H' R' cc itc_ok trivial⟩
    · cases ed
  · cases ed
/-! ### xs[::-1] of a list -/
@[simp] def revL : D → Option D
  | .list ds => some (.list ds.reverse)
  | _ => none
@[simp] def xRev (f : Ex) : Ex := fun ρ π => (f ρ π).bind fun x => (revL x.1).map fun d => (d, x.2)
theorem nf_rev {t : TE} {f : Ex} (h : BF K t f) : NF K (tRevL K t) (xRev f) := by
  refine ⟨fun fr σ H ρ π R d π' e Q q => ?_⟩
  unfold xRev at e
  cases ef : f ρ π with
  | none => rw [ef] at e; cases e
  | some x =>
    rw [ef] at e
    simp only [Option.bind_some] at e
    cases er : revL x.1 with
    | none => rw [er] at e; cases e
    | some y =>
      rw [er] at e
      cases e
      unfold revL at er
      split at er
      · rename_i ds hx
        cases er
        refine h.go fr σ H ρ π R x.1 x.2 ef _ fun v H1 R1 c1 b => ?_
        rw [hx] at b
        obtain ⟨p, xs, rfl, ep, rp⟩ := b.list
        refine ⟨p, xs, rfl, sqL ep, fun l hl => ?_⟩
        exact q _ _ (R1.kp (upN hl)) (c1.trans (.of (upN hl))) ((dnNew R1.sA hl rp.reverse).back fun p h => R1.back c1 h)
      · cases er
/-! ### math.lcm, math.isqrt -/
def rLcm : List V → Hp → VK → Prop := fun vs H Q => ∃ a b : Int, vs = [.int a, .int b] ∧ a.natAbs < 2 ^ 64 ∧ b.natAbs < 2 ^ 64 ∧ Q (.int ((Nat.lcm a.natAbs b.natAbs : Nat) : Int)) H
theorem cr_lcm {X : Cx} : CallR X (.builtin "math.lcm") rLcm := by
  intro pins s σ H vs us Q I r h
  obtain ⟨a, b, rfl, ha, hb, q⟩ := h
  obtain ⟨t, u, rfl⟩ := Vals.int2 r
  have e : Nat.lcm 1 a.natAbs = a.natAbs := by simp [Nat.lcm]
  refine PySem.W.mg_lcm_v (c := ((Nat.lcm a.natAbs b.natAbs : Nat) : Int)) ha hb (by rw [e]) ?_ ⟨.int _, H, I.tok _, ⟨_, rfl⟩, q⟩
  have l : Nat.lcm a.natAbs b.natAbs < 2 ^ 128 := by
    have h1 : Nat.lcm a.natAbs b.natAbs ≤ a.natAbs * b.natAbs := Nat.div_le_self _ _
    have h2 : a.natAbs * b.natAbs < 2 ^ 64 * 2 ^ 64 := Nat.mul_lt_mul'' ha hb
    have h3 : 2 ^ 64 * 2 ^ 64 = 2 ^ 128 := by decide
    omega
  rw [Int.natAbs_natCast]
  exact Nat.lt_trans (log2Lt (show 0 < 128 by decide) l) (by decide)
def lcmOk (i j : Int) : Bool := cdec (i.natAbs < 2 ^ 64 ∧ j.natAbs < 2 ^ 64)
@[simp] def lcmF : F1 := fun ds => match ds with
  | [.int i, .int j] => if lcmOk i j = true then some (.int (Nat.lcm i.natAbs j.natAbs : Nat)) else none
  | _ => none
theorem cf_lcm : CF K rLcm lcmF := ⟨fun fr H S al vs ds hx d e Q q => by
  unfold lcmF at e
  split at e
  · split at e
    · rename_i c
      cases e
      obtain ⟨c1, c2⟩ := of_cdec c
      obtain ⟨v, w, rfl, h, h2⟩ := dbA2 hx
      obtain rfl := h.int
      obtain rfl := h2.int
      exact ⟨_, _, rfl, c1, c2, q _ H (Kp.refl _) (.int _)⟩
    · cases e
  · cases e⟩
def rIsq : List V → Hp → VK → Prop := fun vs H Q => ∃ a : Int, vs = [.int a] ∧ 0 ≤ a ∧ a < 2 ^ 64 ∧ Q (.int ((Float64.isqrt a.toNat : Nat) : Int)) H
theorem cr_isqrt {X : Cx} : CallR X (.builtin "math.isqrt") rIsq := by
  intro pins s σ H vs us Q I r h
  obtain ⟨a, rfl, h0, h1, q⟩ := h
  cases r with
  | cons r rr =>
    cases rr
    obtain ⟨t, rfl⟩ := r
    exact PySem.W.mg_isqrt h0 h1 ⟨.int _, H, I.tok _, ⟨_, rfl⟩, q⟩
def isqOk (i : Int) : Bool := cdec (0 ≤ i ∧ i < 2 ^ 64)
@[simp] def isqrtF : F1 := fun ds => match ds with
  | [.int i] => if isqOk i = true then some (.int (Float64.isqrt i.toNat : Nat)) else none
  | _ => none
theorem cf_isqrt : CF K rIsq isqrtF := ⟨fun fr H S al vs ds hx d e Q q => by
  unfold isqrtF at e
  split at e
  · split at e
    · rename_i c
      cases e
      obtain ⟨c1, c2⟩ := of_cdec c
      obtain ⟨v, rfl, h⟩ := dbA1 hx
      obtain rfl := h.int
      exact ⟨_, rfl, c1, c2, q _ H (Kp.refl _) (.int _)⟩
    · cases e
  · cases e⟩
end FL

namespace PSr
/-! Endless rows of whole numbers: sums, products, the rule n f(n) = sum s(k) f(n - k). -/
abbrev Sr := Nat → Int
def sm : Nat → (Nat → Int) → Int
  | 0, _ => 0
  | n + 1, f => sm n f + f n
@[simp] theorem sm_zero (f : Nat → Int) : sm 0 f = 0 := rfl
theorem sm_succ (n : Nat) (f : Nat → Int) : sm (n + 1) f = sm n f + f n := rfl
theorem sm_congr {n : Nat} {f g : Nat → Int} (h : ∀ i, i < n → f i = g i) : sm n f = sm n g := by
  induction n with
  | zero => rfl
  | succ n ih => rw [sm_succ, sm_succ, ih fun i l => h i (by omega), h n (by omega)]
theorem sm_add (n : Nat) (f g : Nat → Int) : sm n (fun i => f i + g i) = sm n f + sm n g := by
  induction n with
  | zero => rfl
  | succ n ih => rw [sm_succ, sm_succ, sm_succ, ih]; omega
theorem sm_mul (n : Nat) (c : Int) (f : Nat → Int) : sm n (fun i => c * f i) = c * sm n f := by
  induction n with
  | zero => simp
  | succ n ih => rw [sm_succ, sm_succ, ih, Int.mul_add]
theorem sm_mulr (n : Nat) (c : Int) (f : Nat → Int) : sm n (fun i => f i * c) = sm n f * c := by
  rw [Int.mul_comm, ← sm_mul]; exact sm_congr fun i _ => Int.mul_comm _ _
theorem sm_null {n : Nat} {f : Nat → Int} (h : ∀ i, i < n → f i = 0) : sm n f = 0 := by
  rw [sm_congr h]
  induction n with
  | zero => rfl
  | succ n ih => rw [sm_succ, ih fun i l => h i (by omega)]; rfl
/-- the first term set apart -/
theorem sm_head (n : Nat) (f : Nat → Int) : sm (n + 1) f = f 0 + sm n (fun i => f (i + 1)) := by
  induction n with
  | zero => simp [sm]
  | succ n ih => rw [sm_succ, ih, sm_succ]; omega
theorem sm_rev (n : Nat) (f : Nat → Int) : sm n (fun i => f (n - 1 - i)) = sm n f := by
  induction n with
  | zero => rfl
  | succ n ih =>
    rw [sm_head, sm_succ n f]
    have : sm n (fun i => f (n + 1 - 1 - (i + 1))) = sm n (fun i => f (n - 1 - i)) := sm_congr fun i l => by
      show f _ = f _
      congr 1; omega
    rw [this, ih]
    show f (n + 1 - 1 - 0) + _ = _
    rw [show n + 1 - 1 - 0 = n by omega]; omega
theorem sm_swap (n m : Nat) (f : Nat → Nat → Int) : sm n (fun i => sm m (f i)) = sm m (fun j => sm n (fun i => f i j)) := by
  induction n with
  | zero => exact (sm_null fun j _ => rfl).symm
  | succ n ih =>
    rw [sm_succ, ih, ← sm_add]
    rfl
/-- more terms, all of them 0 -/
theorem sm_more {n m : Nat} {f : Nat → Int} (h : n ≤ m) (z : ∀ i, n ≤ i → i < m → f i = 0) : sm m f = sm n f := by
  induction m with
  | zero => have : n = 0 := by omega
            subst this; rfl
  | succ m ih =>
    by_cases c : n = m + 1
    · subst c; rfl
    · rw [sm_succ, ih (by omega) fun i a b => z i a (by omega), z m (by omega) (by omega)]; omega
/-- one term alone -/
theorem sm_one {n k : Nat} {f : Nat → Int} (h : k < n) (z : ∀ i, i < n → i ≠ k → f i = 0) : sm n f = f k := by
  induction n with
  | zero => omega
  | succ n ih =>
    rw [sm_succ]
    by_cases c : k = n
    · subst c; rw [sm_null fun i l => z i (by omega) (by omega)]; omega
    · rw [ih (by omega) fun i l => z i (by omega), z n (by omega) (by omega)]; omega
/-- the product of rows -/
def cv (f g : Sr) : Sr := fun n => sm (n + 1) (fun i => f i * g (n - i))
theorem cv_comm (f g : Sr) : cv f g = cv g f := by
  funext n
  unfold cv
  rw [← sm_rev (n + 1) (fun i => f i * g (n - i))]
  refine sm_congr fun i l => ?_
  show f (n + 1 - 1 - i) * g (n - (n + 1 - 1 - i)) = g i * f (n - i)
  rw [show n + 1 - 1 - i = n - i by omega, show n - (n - i) = i by omega, Int.mul_comm]
def ite0 (c : Prop) [Decidable c] (x : Int) : Int := if c then x else 0
/-- both sums over all pairs below n + 1 -/
theorem cv_all (f g : Sr) (n : Nat) : cv f g n = sm (n + 1) (fun i => sm (n + 1) (fun j => if i + j = n then f i * g j else 0)) := by
  refine sm_congr fun i l => ?_
  rw [sm_one (k := n - i) (by omega) (fun j a b => if_neg (by omega)), if_pos (by omega)]
/-- the same with a wider frame -/
theorem cv_wide (f g : Sr) {n m : Nat} (h : n ≤ m) : cv f g n = sm (m + 1) (fun i => sm (m + 1) (fun j => if i + j = n then f i * g j else 0)) := by
  rw [cv_all, ← sm_more (show n + 1 ≤ m + 1 by omega) (f := fun i => sm (n + 1) (fun j => if i + j = n then f i * g j else 0)) fun i a b => sm_null fun j c => if_neg (by omega)]
  refine sm_congr fun i l => ?_
  exact (sm_more (show n + 1 ≤ m + 1 by omega) fun j a b => if_neg (by omega)).symm
/-- threefold sums -/
def cv3 (f g h : Sr) (n : Nat) : Int := sm (n + 1) (fun i => sm (n + 1) (fun j => sm (n + 1) (fun k => if i + j + k = n then f i * g j * h k else 0)))
theorem cv_assoc1 (f g h : Sr) (n : Nat) : cv (cv f g) h n = cv3 f g h n := by
  have e1 : cv (cv f g) h n = sm (n + 1) (fun k => sm (n + 1) (fun i => sm (n + 1) (fun j => if i + j + k = n then f i * g j * h k else 0))) := by
    rw [cv_comm]
    refine sm_congr fun k l => ?_
    rw [cv_wide f g (show n - k ≤ n by omega), ← sm_mul]
    refine sm_congr fun i _ => ?_
    rw [← sm_mul]
    refine sm_congr fun j _ => ?_
    by_cases c : i + j = n - k
    · rw [if_pos c, if_pos (by omega), Int.mul_comm]
    · rw [if_neg c, if_neg (by omega), Int.mul_zero]
  rw [e1, sm_swap]
  refine sm_congr fun i _ => ?_
  rw [sm_swap]
theorem cv_assoc2 (f g h : Sr) (n : Nat) : cv f (cv g h) n = cv3 f g h n := by
  refine sm_congr fun i l => ?_
  rw [cv_wide g h (show n - i ≤ n by omega), ← sm_mul]
  refine sm_congr fun j _ => ?_
  rw [← sm_mul]
  refine sm_congr fun k _ => ?_
  by_cases c : j + k = n - i
  · rw [if_pos c, if_pos (by omega), Int.mul_assoc]
  · rw [if_neg c, if_neg (by omega), Int.mul_zero]
theorem cv_assoc (f g h : Sr) : cv (cv f g) h = cv f (cv g h) := by
  funext n
  rw [cv_assoc1, cv_assoc2]
theorem cv_add (f g h : Sr) : cv f (fun n => g n + h n) = fun n => cv f g n + cv f h n := by
  funext n
  unfold cv
  rw [← sm_add]
  exact sm_congr fun i _ => Int.mul_add _ _ _
theorem add_cv (f g h : Sr) : cv (fun n => f n + g n) h = fun n => cv f h n + cv g h n := by
  rw [cv_comm, cv_add, cv_comm h f, cv_comm h g]
/-- the row 1, 0, 0, ... -/
def one : Sr := fun n => if n = 0 then 1 else 0
theorem cv_one (f : Sr) : cv f one = f := by
  funext n
  unfold cv
  rw [sm_one (k := n) (by omega) fun i a b => by unfold one; rw [if_neg (by omega), Int.mul_zero]]
  unfold one
  rw [if_pos (by omega), Int.mul_one]
theorem one_cv (f : Sr) : cv one f = f := by rw [cv_comm, cv_one]
/-- places times numbers -/
def dd (f : Sr) : Sr := fun n => (n : Int) * f n
theorem dd_cv (f g : Sr) : dd (cv f g) = fun n => cv (dd f) g n + cv f (dd g) n := by
  funext n
  unfold dd cv
  rw [← sm_mul, ← sm_add]
  refine sm_congr fun i l => ?_
  show (n : Int) * (f i * g (n - i)) = (i : Int) * f i * g (n - i) + f i * (((n - i : Nat) : Int) * g (n - i))
  have : (n : Int) = (i : Int) + ((n - i : Nat) : Int) := by omega
  rw [this, Int.add_mul, Int.mul_assoc, Int.mul_left_comm ((n - i : Nat) : Int) (f i)]
/-- the rule: n f(n) = sum s(k) f(n - k) -/
def Ld (s f : Sr) : Prop := dd f = cv s f
theorem ld_cv {s t f g : Sr} (h : Ld s f) (k : Ld t g) : Ld (fun n => s n + t n) (cv f g) := by
  unfold Ld at *
  rw [dd_cv, h, k, add_cv]
  funext n
  show cv (cv s f) g n + cv f (cv t g) n = cv s (cv f g) n + cv t (cv f g) n
  rw [cv_assoc s f g, ← cv_assoc f t g, cv_comm f t, cv_assoc t f g]
theorem ld_one : Ld (fun _ => 0) one := by
  unfold Ld
  funext n
  have e : PSr.cv (fun _ => 0) one n = 0 := sm_null fun i _ => Int.zero_mul _
  rw [e]
  unfold dd PSr.one
  by_cases c : n = 0
  · subst c; rfl
  · rw [if_neg c, Int.mul_zero]
/-- the rule tells the row by its first number -/
theorem ld_uniq {s f g : Sr} (h : Ld s f) (k : Ld s g) (s0 : s 0 = 0) (e : f 0 = g 0) : f = g := by
  have main : ∀ m n, n ≤ m → f n = g n := by
    intro m
    induction m with
    | zero => intro n l; rw [show n = 0 by omega]; exact e
    | succ m ih =>
      intro n l
      by_cases c : n ≤ m
      · exact ih n c
      have hn : n = m + 1 := by omega
      subst hn
      have h1 := congrFun h (m + 1)
      have k1 := congrFun k (m + 1)
      have same : PSr.cv s f (m + 1) = PSr.cv s g (m + 1) := by
        refine sm_congr fun i l => ?_
        by_cases c : i = 0
        · subst c; rw [s0, Int.zero_mul, Int.zero_mul]
        · rw [ih (m + 1 - i) (by omega)]
      rw [same, ← k1] at h1
      unfold dd at h1
      exact Int.eq_of_mul_eq_mul_left (by omega) h1
  funext n
  exact main n n (Nat.le_refl _)
/-- the same for the numbers before a place -/
theorem ld_uniqN {s t f g : Sr} {N : Nat} (h : ∀ n, n < N → dd f n = PSr.cv s f n) (k : ∀ n, n < N → dd g n = PSr.cv t g n) (st : ∀ n, n < N → s n = t n) (s0 : 0 < N → s 0 = 0) (e : 0 < N → f 0 = g 0) : ∀ n, n < N → f n = g n := by
  have main : ∀ m n, n ≤ m → n < N → f n = g n := by
    intro m
    induction m with
    | zero => intro n l b; rw [show n = 0 by omega]; exact e (by omega)
    | succ m ih =>
      intro n l b
      by_cases c : n ≤ m
      · exact ih n c b
      have hn : n = m + 1 := by omega
      subst hn
      have h1 := h _ b
      have k1 := k _ b
      have same : PSr.cv s f (m + 1) = PSr.cv t g (m + 1) := by
        refine sm_congr fun i l => ?_
        rw [← st i (by omega)]
        by_cases c : i = 0
        · subst c; rw [s0 (by omega), Int.zero_mul, Int.zero_mul]
        · rw [ih (m + 1 - i) (by omega) (by omega)]
      rw [same, ← k1] at h1
      unfold dd at h1
      exact Int.eq_of_mul_eq_mul_left (by omega) h1
  exact fun n b => main n n (Nat.le_refl _) b
/-- 1 - x^d -/
def st (d : Nat) : Sr := fun n => if n = 0 then 1 else if n = d then -1 else 0
/-- 1 / (1 - x^d) -/
def geo (d : Nat) : Sr := fun n => if n % d = 0 then 1 else 0
/-- d at the places that d divides -/
def dv (d : Nat) : Sr := fun n => if n = 0 then 0 else if n % d = 0 then (d : Int) else 0
theorem cv_st (d : Nat) (hd : 0 < d) (f : Sr) (n : Nat) : cv f (st d) n = f n - (if d ≤ n then f (n - d) else 0) := by
  rw [cv_comm]
  show sm (n + 1) (fun i => st d i * f (n - i)) = _
  rw [sm_head]
  have a : st d 0 * f (n - 0) = f n := by unfold st; rw [if_pos rfl, Int.one_mul, Nat.sub_zero]
  rw [a]
  by_cases c : d ≤ n
  · rw [if_pos c, sm_one (k := d - 1) (by omega) fun i x y => by unfold st; rw [if_neg (by omega), if_neg (by omega), Int.zero_mul]]
    unfold st
    rw [if_neg (by omega), if_pos (by omega), show n - (d - 1 + 1) = n - d by omega]
    omega
  · rw [if_neg c, sm_null fun i l => by unfold st; rw [if_neg (by omega), if_neg (by omega), Int.zero_mul]]
    omega
theorem geo_st (d : Nat) (hd : 0 < d) : cv (geo d) (st d) = one := by
  funext n
  rw [cv_st d hd]
  unfold geo one
  by_cases c : n = 0
  · subst c
    rw [if_pos (Nat.zero_mod _), if_neg (by omega)]; rfl
  · rw [if_neg c]
    by_cases l : d ≤ n
    · rw [if_pos l]
      have : n % d = (n - d) % d := by rw [Nat.mod_eq_sub_mod l]
      rw [← this]; omega
    · rw [if_neg l, if_neg (by rw [Nat.mod_eq_of_lt (by omega)]; exact c)]; rfl
theorem ld_st (d : Nat) (hd : 0 < d) : Ld (fun n => - dv d n) (PSr.st d) := by
  unfold Ld
  funext n
  rw [cv_st d hd]
  unfold dd PSr.st dv
  by_cases c : n = 0
  · subst c
    rw [if_pos rfl, if_pos rfl, if_neg (by omega)]; simp
  · by_cases l : d ≤ n
    · by_cases e : n = d
      · subst e; simp [c]
      · rw [if_neg c, if_neg c, if_neg e, if_pos l, if_neg (show ¬ (n - d = 0) by omega), Nat.mod_eq_sub_mod l]
        split <;> omega
    · rw [if_neg c, if_neg c, if_neg l, if_neg (show ¬ (n = d) by omega), if_neg (show ¬ (n % d = 0) by rw [Nat.mod_eq_of_lt (by omega)]; exact c)]; omega
theorem ld_geo (d : Nat) (hd : 0 < d) : Ld (dv d) (PSr.geo d) := by
  have e := geo_st d hd
  have h := dd_cv (PSr.geo d) (PSr.st d)
  rw [e] at h
  have o := ld_one
  unfold Ld at o
  have z : PSr.cv (fun _ => 0) PSr.one = fun _ => 0 := by funext n; exact sm_null fun i _ => Int.zero_mul _
  rw [o, z, ld_st d hd] at h
  have hz : PSr.cv (dd (PSr.geo d)) (PSr.st d) = PSr.cv (PSr.cv (dv d) (PSr.geo d)) (PSr.st d) := by
    funext n
    have hn := congrFun h n
    have r : PSr.cv (PSr.geo d) (PSr.cv (fun n => - dv d n) (PSr.st d)) n = - PSr.cv (PSr.cv (dv d) (PSr.geo d)) (PSr.st d) n := by
      rw [← cv_assoc, cv_comm (PSr.geo d) (fun n => - dv d n), cv_assoc, cv_assoc]
      have : PSr.cv (fun n => - dv d n) (PSr.cv (PSr.geo d) (PSr.st d)) n = -1 * PSr.cv (dv d) (PSr.cv (PSr.geo d) (PSr.st d)) n := by
        unfold PSr.cv
        rw [← sm_mul]
        refine sm_congr fun i _ => ?_
        rw [← Int.mul_assoc, Int.neg_mul 1, Int.one_mul]
      rw [this]; omega
    have hn : 0 = PSr.cv (dd (PSr.geo d)) (PSr.st d) n + PSr.cv (PSr.geo d) (PSr.cv (fun n => - dv d n) (PSr.st d)) n := hn
    rw [r] at hn
    omega
  have fin : PSr.cv (PSr.cv (dd (PSr.geo d)) (PSr.st d)) (PSr.geo d) = PSr.cv (PSr.cv (PSr.cv (dv d) (PSr.geo d)) (PSr.st d)) (PSr.geo d) := by rw [hz]
  rw [cv_assoc, cv_assoc _ (PSr.st d), cv_comm (PSr.st d), e, cv_one, cv_one] at fin
  exact fin
end PSr

noncomputable section
namespace FL
open PySem PySem.Spec PyProof.Rows L2 EP
/-! ### rows of numbers as data -/
def rowI (N : Nat) (f : Nat → Int) : List D := (List.range N).map fun i => .int (f i)
@[simp] theorem rowI_length (N : Nat) (f : Nat → Int) : (rowI N f).length = N := by simp [rowI]
theorem rowI_get {N : Nat} {f : Nat → Int} {i : Nat} (h : i < N) : (rowI N f)[i]? = some (.int (f i)) := by
  unfold rowI
  rw [List.getElem?_map, List.getElem?_range h]; rfl
theorem rowI_none {N : Nat} {f : Nat → Int} {i : Nat} (h : N ≤ i) : (rowI N f)[i]? = none := List.getElem?_eq_none (by simp; exact h)
theorem rowI_at {N : Nat} {f : Nat → Int} {i : Int} (h0 : 0 ≤ i) (h : i.toNat < N) : atI (rowI N f) i = some (.int (f i.toNat)) := by
  rw [atI_of (show i = (i.toNat : Int) by omega), rowI_get h]
theorem rowI_congr {N : Nat} {f g : Nat → Int} (h : ∀ i, i < N → f i = g i) : rowI N f = rowI N g := List.map_congr_left fun i hi => by rw [h i (List.mem_range.mp hi)]
theorem rowI_succ (N : Nat) (f : Nat → Int) : rowI (N + 1) f = rowI N f ++ [.int (f N)] := by
  unfold rowI
  rw [List.range_succ, List.map_append]; rfl
theorem rowI_cons (N : Nat) (f : Nat → Int) : rowI (N + 1) f = .int (f 0) :: rowI N (fun i => f (i + 1)) := by
  unfold rowI
  rw [List.range_succ_eq_map, List.map_cons, List.map_map]; rfl
theorem rowI_ext {N : Nat} {f : Nat → Int} {xs : List D} (l : xs.length = N) (h : ∀ i, i < N → xs[i]? = some (.int (f i))) : xs = rowI N f := by
  refine List.ext_getElem? fun i => ?_
  by_cases c : i < N
  · rw [h i c, rowI_get c]
  · rw [rowI_none (by omega), List.getElem?_eq_none (by omega)]
theorem rowI_set {N : Nat} {f : Nat → Int} {j : Nat} {x : Int} : (rowI N f).set j (.int x) = rowI N (fun i => if i = j then x else f i) := by
  refine rowI_ext (by simp) fun i hi => ?_
  by_cases c : i = j
  · subst c
    rw [List.getElem?_set_self (by simpa using hi), if_pos rfl]
  · rw [List.getElem?_set_ne (Ne.symm c), rowI_get hi, if_neg c]
theorem rg_rowI (lo : Int) (N : Nat) : rg lo N = rowI N (fun i => lo + i) := rfl
theorem intsO_rowI : ∀ (N : Nat) (f : Nat → Int), intsO (rowI N f) = some ((List.range N).map f) := by
  intro N
  induction N with
  | zero => intro f; rfl
  | succ N ih =>
    intro f
    rw [rowI_cons, List.range_succ_eq_map, List.map_cons, List.map_map]
    simp [intsO, ih]
theorem sum_rowI : ∀ (N : Nat) (f : Nat → Int), ((List.range N).map f).sum = PSr.sm N f := by
  intro N
  induction N with
  | zero => intro f; rfl
  | succ N ih => intro f; rw [List.range_succ, List.map_append, List.sum_append, ih, PSr.sm_succ]; simp
theorem sumF_rowI (N : Nat) (f : Nat → Int) : sumF [.list (rowI N f)] = some (.int (PSr.sm N f)) := by
  simp only [sumF, intsO_rowI, Option.map_some, sum_rowI]
/-- a list display over a range -/
theorem lcGo_rg {tg : Gx} {tt : Tx} {el : Ex} {ρw : En} {π : Pot} (lo : Int) (N : Nat) (f : Nat → Int) (h : ∀ i : Nat, i < N → ∃ ρ2, tg (.int (lo + i)) ρw = some ρ2 ∧ tt ρ2 π = some (true, π) ∧ el ρ2 π = some (.int (f i), π)) :
    lcGo tg tt el ρw (rg lo N) π = some (rowI N f, π) := by
  rw [lcGo_map (fun d => match d with | .int p => .int (f (p - lo).toNat) | d => d) (rg lo N) fun d hd => ?_]
  · congr 1
    congr 1
    refine rowI_ext (by simp [rg_length]) fun i hi => ?_
    rw [List.getElem?_map, rg_rowI, rowI_get hi]
    simp
    congr 1; omega
  · obtain ⟨i, hi⟩ := List.getElem?_of_mem hd
    obtain ⟨li, rfl⟩ := rg_get hi
    obtain ⟨ρ2, e1, e2, e3⟩ := h i li
    refine ⟨ρ2, e1, e2, ?_⟩
    rw [e3]
    simp
    congr 1; omega
theorem zipD_length : ∀ (ds es : List D), (zipD ds es).length = min ds.length es.length
  | [], _ => by simp
  | _ :: _, [] => by simp
  | d :: ds, e :: es => by simp [zipD_length ds es]
/-- a list display over two rows -/
theorem lcGo_zip {tg : Gx} {tt : Tx} {el : Ex} {ρw : En} {π : Pot} (N M : Nat) (f g : Nat → Int) (k : Nat → Int) (h : ∀ i : Nat, i < N → i < M → ∃ ρ2, tg (.tuple [.int (f i), .int (g i)]) ρw = some ρ2 ∧ tt ρ2 π = some (true, π) ∧ el ρ2 π = some (.int (k i), π)) :
    lcGo tg tt el ρw (zipD (rowI N f) (rowI M g)) π = some (rowI (min N M) k, π) := by
  induction N generalizing M f g k with
  | zero => simp [rowI]
  | succ N ih =>
    cases M with
    | zero => simp [rowI]
    | succ M =>
      obtain ⟨ρ2, e1, e2, e3⟩ := h 0 (by omega) (by omega)
      have r := ih M (fun i => f (i + 1)) (fun i => g (i + 1)) (fun i => k (i + 1)) (fun i a b => h (i + 1) (by omega) (by omega))
      rw [rowI_cons N f, rowI_cons M g, show min (N + 1) (M + 1) = min N M + 1 by omega, rowI_cons (min N M) k]
      simp only [zipD, lcGo, e1, e2, e3, r, Option.bind_some, if_true, Option.map_some]
theorem rowI_reverse (N : Nat) (f : Nat → Int) : (rowI N f).reverse = rowI N (fun i => f (N - 1 - i)) := by
  refine rowI_ext (by simp) fun i hi => ?_
  rw [List.getElem?_reverse (by simpa using hi), rowI_length, rowI_get (by omega)]
theorem rowI_replicate (N : Nat) (x : Int) : List.replicate N (.int x : D) = rowI N (fun _ => x) := by
  refine rowI_ext (by simp) fun i hi => ?_
  rw [List.getElem?_replicate, if_pos hi]
theorem rowI_drop (N : Nat) (f : Nat → Int) : (rowI (N + 1) f).drop 1 = rowI N (fun i => f (i + 1)) := by rw [rowI_cons]; rfl
theorem rowI_take {N k : Nat} (f : Nat → Int) (h : k ≤ N) : (rowI N f).take k = rowI k f := by
  refine rowI_ext (by simp; omega) fun i hi => ?_
  rw [List.getElem?_take, if_pos hi, rowI_get (by omega)]
end FL

noncomputable section
namespace FL
open PySem PySem.Spec PyProof.Rows L2 EP
variable {K : PySem.W.Frag}
/-! ### xs[a:b:c] of a list -/
def pickL {α : Type} (xs : List α) (lo hi st : Option Int) : List α :=
  (sliceRange (sliceBounds lo hi st xs.length).1 (sliceBounds lo hi st xs.length).2.1 (sliceBounds lo hi st xs.length).2.2).filterMap (xs[·]?)
def tStL (K : PySem.W.Frag) (te : TE) (tl th ts : TO) : TE := fun σ H Q => te σ H fun x H1 => tl σ H1 fun lo H2 => th σ H2 fun hi H3 => ts σ H3 fun st H4 => ∃ a xs, x = .ref a ∧ SqL K H4 a xs ∧ st ≠ some 0 ∧ (pickL xs lo hi st).length ≤ xs.length ∧ ∀ p, H4 p = none → Q (.ref p) (upd H4 p (.lst (pickL xs lo hi st)))
theorem vals_pick {xs : List V} {its : List Value} (r : Vals xs its) : ∀ ks : List Nat, Vals (ks.filterMap (xs[·]?)) (ks.filterMap (its[·]?))
  | [] => .nil
  | k :: ks => by
    have ih := vals_pick r ks
    cases h : xs[k]? with
    | none =>
      have : its[k]? = none := by
        rw [List.getElem?_eq_none_iff] at h ⊢
        rw [← r.length]; exact h
      rw [List.filterMap_cons_none h, List.filterMap_cons_none this]; exact ih
    | some v =>
      obtain ⟨w, ew, rw'⟩ := r.get h
      rw [List.filterMap_cons_some h, List.filterMap_cons_some ew]
      exact .cons rw' ih
section
variable {X : Cx} {pos : Pos}
theorem pe_stL {e : Expr} {te : TE} {lo hi : Option Expr} {st : Expr} {tl th ts : TO} {p3 : Pos} (he : PE X e te) (hl : PO X lo tl) (hh : PO X hi th) (hst : PO X (some st) ts)
    (hpl : ∀ o i, subscripted (.Slice lo hi (some st) p3) false o i = operate [o, i] (getItem o i) := by intros; with_unfolding_all rfl) : PE X (.Subscript e (.Slice lo hi (some st) p3) pos) (tStL X.K te tl th ts) := by
  refine ⟨fun pins s σ H Q I h => ?_⟩
  refine Subscript_ (thn (he.run pins s σ H _ I h) fun v s1 ⟨x, H1, I1, r1, q1⟩ => ?_)
  refine wpAny_Slice (thn (hl.run pins s1 σ H1 _ I1 q1) fun vl s2 ⟨l, H2, I2, pl, q2⟩ => ?_)
  refine thn (hh.run pins s2 σ H2 _ I2 q2) fun vu s3 ⟨u, H3, I3, pu, q3⟩ => ?_
  refine thn (hst.run pins s3 σ H3 _ I3 q3) fun vs s4 ⟨o, H4, I4, ps, q4⟩ => ?_
  obtain ⟨a, xs, ex, hx, o0, pz, q⟩ := q4
  subst ex
  cases r1
  have I5 : Inv X pins σ H4 { s4 with heap := s4.heap.push { cls := .type "slice", data := .fields #[vl, vu, vs] } } := I4.kept (t' := s4.toks) fun b ob q => Heap.get?_push_of_some _ q
  obtain ⟨its, r, ht, hz⟩ := I5.list hx
  have hlen := r.length
  show wpAny (model X.prog X.w) X.A (subscriptTail e (.Slice lo hi (some st) p3) (.ref a) (.ref s4.heap.objs.size)) (EP X pins σ Q) X.xe { s4 with heap := s4.heap.push { cls := .type "slice", data := .fields #[vl, vu, vs] } }
  refine tail_any (ops := [.ref a, .ref s4.heap.objs.size]) ht.isList.typeIs (PySem.slot_list_getitem.lookup) ?_ (hpl _ _)
  refine wpAny_getItem_list_slice ht.isList (Heap.IsSliceOf.new _ vl vu vs) pl pu ps o0 ?_ (by rw [List.size_toArray]; omega)
  have e1 : slicePick its.toArray l u o = (pickL its l u o).toArray := by
    unfold slicePick pickL
    simp
  rw [e1]
  have r2 : Vals (pickL xs l u o) (pickL its l u o) := by
    unfold pickL
    rw [hlen]
    exact vals_pick r _
  refine ⟨.ref _, _, I5.laid (t' := s4.toks) (o := .lst (pickL xs l u o)) (fun b ob q => Heap.get?_push_of_some _ q) (Nat.le_refl _) ?_, rfl, q _ (I5.hok.fresh (Nat.le_refl _))⟩
  exact ⟨by omega, _, 0, r2, Heap.get?_push_size _ rfl⟩
end
theorem DvA.pick {H : Hp} {S : Addr → Prop} {xs : List V} {ds : List D} (r : DvA K H S xs ds) : ∀ ks : List Nat, DvA K H S (ks.filterMap (xs[·]?)) (ks.filterMap (ds[·]?))
  | [] => .nil
  | k :: ks => by
    have ih := r.pick ks
    cases h : ds[k]? with
    | none =>
      have : xs[k]? = none := by
        rw [List.getElem?_eq_none_iff] at h ⊢
        rw [r.length]; exact h
      rw [List.filterMap_cons_none h, List.filterMap_cons_none this]; exact ih
    | some d =>
      have hk : k < ds.length := (List.getElem?_eq_some_iff.mp h).1
      obtain ⟨v, e, dv⟩ := atI_dv r (show atI ds (k : Int) = some d by rw [atI_of rfl, h])
      rw [atI_of rfl] at e
      rw [List.filterMap_cons_some h, List.filterMap_cons_some e]
      exact .cons dv ih
@[simp] def stepL : D → Option Int → Option Int → Option Int → Option D
  | .list ds, lo, hi, st => if st ≠ some 0 ∧ (pickL ds lo hi st).length ≤ ds.length then some (.list (pickL ds lo hi st)) else none
  | _, _, _, _ => none
@[simp] def xSt (a : Ex) (l h s : PxF) : Ex := fun ρ π => (a ρ π).bind fun x => (l ρ x.2).bind fun y => (h ρ y.2).bind fun z => (s ρ z.2).bind fun w => (stepL x.1 y.1 z.1 w.1).map fun d => (d, w.2)
theorem xSt_some {a : Ex} {l h s : PxF} {ρ : En} {π : Pot} {d : D} {π' : Pot} (e : xSt a l h s ρ π = some (d, π')) : ∃ dx π1 lo π2 hi π3 st, a ρ π = some (dx, π1) ∧ l ρ π1 = some (lo, π2) ∧ h ρ π2 = some (hi, π3) ∧ s ρ π3 = some (st, π') ∧ stepL dx lo hi st = some d := by
  unfold xSt at e
  cases ea : a ρ π with
  | none => rw [ea] at e; cases e
  | some x =>
    rw [ea] at e
    simp only [Option.bind_some] at e
    cases eb : l ρ x.2 with
    | none => rw [eb] at e; cases e
    | some y =>
      rw [eb] at e
      simp only [Option.bind_some] at e
      cases ec : h ρ y.2 with
      | none => rw [ec] at e; cases e
      | some z =>
        rw [ec] at e
        simp only [Option.bind_some] at e
        cases ed : s ρ z.2 with
        | none => rw [ed] at e; cases e
        | some w =>
          rw [ed] at e
          simp only [Option.bind_some] at e
          cases ef : stepL x.1 y.1 z.1 w.1 with
          | none => rw [ef] at e; cases e
          | some u =>
            rw [ef] at e
            cases e
            exact ⟨x.1, x.2, y.1, y.2, z.1, z.2, w.1, rfl, eb, ec, ed, ef⟩
theorem nf_st {ta : TE} {tl th ts : TO} {fa : Ex} {fl fh fs : PxF} (ha : BF K ta fa) (hl : PF K tl fl) (hh : PF K th fh) (hs : PF K ts fs) : NF K (tStL K ta tl th ts) (xSt fa fl fh fs) := by
  refine ⟨fun fr σ H ρ π R d π' e Q q => ?_⟩
  obtain ⟨dx, π1, lo, π2, hi, π3, st, ea, el, eh, es, ed⟩ := xSt_some e
  refine ha.go fr σ H ρ π R dx π1 ea _ fun x H1 R1 c1 bx => ?_
  refine hl.go fr σ H1 ρ π1 R1 lo π2 el _ fun H2 R2 c2 => ?_
  refine hh.go fr σ H2 ρ π2 R2 hi π3 eh _ fun H3 R3 c3 => ?_
  refine hs.go fr σ H3 ρ π3 R3 st π' es _ fun H4 R4 c4 => ?_
  have b := ((bx.chg R1 c2).chg R2 c3).chg R3 c4
  unfold stepL at ed
  split at ed
  · rename_i ds
    split at ed
    · rename_i c
      cases ed
      obtain ⟨p, xs, rfl, ep, rp⟩ := b.list
      have lx : (pickL xs lo hi st).length ≤ xs.length ∧ DvA K H4 (wd fr σ ρ H4).S (pickL xs lo hi st) (pickL ds lo hi st) := by
        have r : DvA K H4 (wd fr σ ρ H4).S (pickL xs lo hi st) (pickL ds lo hi st) := by
          unfold pickL
          rw [rp.length]
          exact rp.pick _
        exact ⟨by rw [r.length, rp.length]; exact c.2, r⟩
      refine ⟨p, xs, rfl, sqL ep, c.1, lx.1, fun l hl => ?_⟩
      exact q _ _ (R4.kp (upN hl)) (c1.trans (c2.trans (c3.trans (c4.trans (.of (upN hl)))))) ((dnNew R4.sA hl lx.2).back fun p h => R1.back c1 (R2.back c2 (R3.back c3 (R4.back c4 h))))
    · cases ed
  · cases ed
/-! ### what slices with a step pick of rows -/
theorem pick_rowI {N : Nat} (f : Nat → Int) (g : Nat → Nat) : ∀ c, (∀ i, i < c → g i < N) → ((List.range c).map g).filterMap ((rowI N f)[·]?) = rowI c (fun i => f (g i))
  | 0, _ => rfl
  | c + 1, h => by
    rw [List.range_succ, List.map_append, List.filterMap_append, pick_rowI f g c fun i l => h i (by omega), rowI_succ]
    congr 1
    simp [rowI_get (h c (by omega))]
/-- xs[p::-1] -/
theorem pick_down {N p : Nat} (h : p < N) (f : Nat → Int) : pickL (rowI N f) (some (p : Int)) none (some (-1)) = rowI (p + 1) (fun i => f (p - i)) := by
  have e : sliceBounds (some (p : Int)) none (some (-1)) N = ((p : Int), -1, -1) := by
    simp only [sliceBounds, Option.getD_some]
    rw [if_neg (show ¬ ((-1 : Int) > 0) by decide), if_neg (show ¬ (p : Int) < 0 by omega), if_neg (show ¬ ((-1 : Int) > 0) by decide)]
    congr 1
    omega
  unfold pickL
  rw [rowI_length, e]
  show (sliceRange (p : Int) (-1) (-1)).filterMap _ = _
  have e2 : sliceRange (p : Int) (-1) (-1) = (List.range (p + 1)).map fun k => p - k := by
    unfold sliceRange
    simp only
    rw [if_neg (by decide), if_pos (by omega)]
    have : ((p : Int) - -1 - -1 - 1) / (- -1) = ((p + 1 : Nat) : Int) := by
      rw [show (- -1 : Int) = 1 by decide, Int.ediv_one]; omega
    rw [this, Int.toNat_natCast]
    refine List.map_congr_left fun k hk => ?_
    have := List.mem_range.mp hk
    omega
  rw [e2, pick_rowI f (fun k => p - k) (p + 1) fun i _ => by omega]
/-- xs[t::m] -/
theorem pick_up {N t m : Nat} (hm : 0 < m) (h : t ≤ N) (f : Nat → Int) : pickL (rowI N f) (some (t : Int)) none (some (m : Int)) = rowI ((N - t + m - 1) / m) (fun i => f (t + m * i)) := by
  have e : sliceBounds (some (t : Int)) none (some (m : Int)) N = ((t : Int), (N : Int), (m : Int)) := by
    simp only [sliceBounds, Option.getD_some]
    rw [if_pos (show (m : Int) > 0 by omega), if_pos (show (m : Int) > 0 by omega), if_neg (show ¬ (t : Int) < 0 by omega)]
    congr 1
    omega
  unfold pickL
  rw [rowI_length, e]
  show (sliceRange (t : Int) (N : Int) (m : Int)).filterMap _ = _
  have e2 : sliceRange (t : Int) (N : Int) (m : Int) = (List.range ((N - t + m - 1) / m)).map fun k => t + m * k := by
    unfold sliceRange
    simp only
    rw [if_pos (show (m : Int) > 0 by omega)]
    have e3 : (if (t : Int) < (N : Int) then ((N : Int) - (t : Int) + (m : Int) - 1) / (m : Int) else 0) = (((N - t + m - 1) / m : Nat) : Int) := by
      by_cases c : t < N
      · rw [if_pos (by omega)]
        have : (N : Int) - (t : Int) + (m : Int) - 1 = ((N - t + m - 1 : Nat) : Int) := by omega
        rw [this]; rfl
      · rw [if_neg (by omega)]
        have : (N - t + m - 1) / m = 0 := Nat.div_eq_of_lt (by omega)
        rw [this]; rfl
    rw [e3, Int.toNat_natCast]
    refine List.map_congr_left fun k _ => ?_
    have : (t : Int) + (m : Int) * (k : Int) = ((t + m * k : Nat) : Int) := by push_cast; rfl
    rw [this]; rfl
  rw [e2, pick_rowI f (fun k => t + m * k) _ fun i hi => by
    have h1 : (i + 1) * m ≤ N - t + m - 1 := (Nat.le_div_iff_mul_le hm).mp hi
    rw [Nat.add_mul, Nat.one_mul, Nat.mul_comm] at h1
    omega]
end FL

noncomputable section
namespace FL
open PySem PySem.Spec PyProof.Rows L2 EP
variable {K : PySem.W.Frag}
/-! ### not in -/
theorem op_ninA {X : Cx} (hu : X.A.units + 66 < cLine) : OpR X (compareOp .NotIn) (rInA X.K true) := (op_notInD (show X.A.units + 65 < cLine by omega)).or op_notIn_seq
def ninF : F2 := fun x y => match y with
  | .list ds => if SeqAt.shaped x = true ∧ SeqAt.shaped (.list ds) = true then some (.bool (!(ds.any fun z => PyData.eqv z x))) else none
  | .tuple ds => if flatD x = true ∧ ds.all flatD = true then some (.bool (!(inV (flatVD x) (ds.map flatVD)))) else none
  | _ => none
theorem of_nin : OF K (rInA K true) ninF := ⟨fun fr H S al x y dx dy hx hy d e Q q => by
  unfold ninF at e
  split at e
  · split at e
    · rename_i ds c
      cases e
      left
      rw [if_pos rfl]
      exact ⟨dx, ds, hx.dp (shaped_lay c.1), hy.dp (shaped_lay c.2), c.1, c.2, q _ H (Kp.refl _) (.bl _)⟩
    · cases e
  · split at e
    · rename_i ds c
      cases e
      right
      obtain ⟨p, xs, rfl, ep, rp⟩ := hy.tuple
      obtain ⟨e1, e2⟩ := hx.flatV c.1
      obtain ⟨e3, e4⟩ := DvA.flat (fr := fr) rp c.2
      refine ⟨p, xs, rfl, .inr ep.sq, e2, e4, ?_⟩
      rw [if_pos rfl, e1, e3]
      exact q _ H (Kp.refl _) (.bl _)
    · cases e
  · cases e⟩
/-! ### rows of whole numbers told by lists -/
theorem shpI_all : ∀ (ns : List Int), PyData.canLayAll0 (ns.map PyData.int) = true ∧ PyData.depthAll (ns.map PyData.int) ≤ 1
  | [] => ⟨rfl, Nat.zero_le _⟩
  | i :: r => by
    obtain ⟨a, b⟩ := shpI_all r
    refine ⟨?_, ?_⟩
    · show (PyData.canLay0 (.int i) && PyData.canLayAll0 (r.map PyData.int)) = true
      rw [a]; rfl
    · show max (PyData.depth (.int i)) (PyData.depthAll (r.map PyData.int)) ≤ 1
      have : PyData.depth (.int i) = 0 := rfl
      omega
theorem shp_ints (ns : List Int) : SeqAt.shaped (.list (ns.map PyData.int)) = true := by
  obtain ⟨a, b⟩ := shpI_all ns
  have : decide ((PyData.list (ns.map PyData.int)).depth ≤ 64) = true := decide_eq_true (by show PyData.depthAll (ns.map PyData.int) + 1 ≤ 64; omega)
  show (PyData.canLayAll0 (ns.map PyData.int) && decide ((PyData.list (ns.map PyData.int)).depth ≤ 64)) = true
  rw [a, this]; rfl
theorem nin_ints (x : Int) (ns : List Int) : ninF (.int x) (.list (ns.map PyData.int)) = some (.bool (decide (x ∉ ns))) := by
  have e0 : ninF (.int x) (.list (ns.map PyData.int)) = if SeqAt.shaped (.int x) = true ∧ SeqAt.shaped (.list (ns.map PyData.int)) = true then some (.bool (!((ns.map PyData.int).any fun z => PyData.eqv z (.int x)))) else none := rfl
  rw [e0, if_pos ⟨shp_int x, shp_ints ns⟩]
  congr 2
  rw [List.any_map]
  by_cases h : x ∈ ns
  · rw [decide_eq_false (by simpa using h)]
    simp only [Bool.not_eq_false', List.any_eq_true]
    exact ⟨x, h, by simp⟩
  · rw [decide_eq_true h]
    simp only [Bool.not_eq_true', List.any_eq_false]
    intro y hy
    simp
    exact fun z => h (z ▸ hy)
theorem intsO_map : ∀ ns : List Int, intsO (ns.map PyData.int) = some ns
  | [] => rfl
  | a :: r => by show (intsO (r.map PyData.int)).map _ = _; rw [intsO_map r]; rfl
theorem sortedF_ints (ns : List Int) : sortedF [.list (ns.map PyData.int)] = some (.list ((sortI ns).map PyData.int)) := by
  simp [sortedF, intsO_map]
/-! ### operators of whole numbers, told one by one -/
theorem mulF_of {i j : Int} (h : mulOk i j = true) : mulF (.int i) (.int j) = some (.int (i * j)) := by simp [mulF, h]
theorem modF_of {i j : Int} (h : divOk i j = true) (p : 0 < j) : modF (.int i) (.int j) = some (.int (i % j)) := by simp [h, p]
theorem fdivF_of {i j : Int} (h : divOk i j = true) (p : 0 < j) : fdivF (.int i) (.int j) = some (.int (i / j)) := by simp [h, p]
theorem eqF_int (neg : Bool) (a b : Int) : eqF neg (.int a) (.int b) = some (.bool (if neg then !decide (a = b) else decide (a = b))) := by simp [eqF]
/-! ### while, step by step -/
theorem wh_yes {c : Tx} {b : Sx} {n : Nat} {ρ ρ2 : En} {π π1 π2 : Pot} (h1 : c ρ π = some (true, π1)) (h2 : b ρ π1 = some (ρ2, π2, .nx)) : whGo c b (n + 1) ρ π = whGo c b n ρ2 π2 := by
  show ((c ρ π).bind _) = _
  rw [h1]
  simp only [Option.bind_some, if_true]
  rw [h2]
  rfl
theorem wh_no {c : Tx} {b : Sx} {n : Nat} {ρ : En} {π π1 : Pot} (h1 : c ρ π = some (false, π1)) : whGo c b (n + 1) ρ π = some (ρ, π1, .nx) := by
  show ((c ρ π).bind _) = _
  rw [h1]
  rfl
/-! ### comprehensions over rows of pairs -/
def rowsP (ps : List (Int × Int)) : List D := ps.map fun q => .tuple [.int q.1, .int q.2]
theorem rowsP_length (ps : List (Int × Int)) : (rowsP ps).length = ps.length := by simp [rowsP]
theorem lc_rowsP {tg : Gx} {el : Ex} {ρw : En} {π : Pot} (f : Int × Int → D) : ∀ ps : List (Int × Int), (∀ q ∈ ps, ∃ ρ2, tg (.tuple [.int q.1, .int q.2]) ρw = some ρ2 ∧ el ρ2 π = some (f q, π)) → lcGo tg xYes el ρw (rowsP ps) π = some (ps.map f, π)
  | [], _ => rfl
  | q :: ps, h => by
    obtain ⟨ρ2, e1, e2⟩ := h q List.mem_cons_self
    show lcGo tg xYes el ρw (.tuple [.int q.1, .int q.2] :: rowsP ps) π = _
    unfold lcGo
    rw [e1]
    simp only [Option.bind_some, xYes, if_true]
    rw [e2]
    simp only [Option.bind_some]
    rw [lc_rowsP f ps fun d hd => h d (List.mem_cons_of_mem _ hd)]
    rfl
theorem boolsO_bools (f : Int × Int → Bool) : ∀ ps : List (Int × Int), boolsO (ps.map fun q => .bool (f q)) = some (ps.map f)
  | [] => rfl
  | d :: ds => by
    show (boolsO (ds.map fun d => .bool (f d))).map _ = _
    rw [boolsO_bools f ds]; rfl
theorem intsO_ints (f : Int × Int → Int) : ∀ ps : List (Int × Int), intsO (ps.map fun q => .int (f q)) = some (ps.map f)
  | [] => rfl
  | d :: ds => by
    show (intsO (ds.map fun d => .int (f d))).map _ = _
    rw [intsO_ints f ds]; rfl
end FL

noncomputable section
namespace FL
open PySem PySem.Spec PyProof.Rows L2 EP
variable {K : PySem.W.Frag}
/-! ### t[::-1] of a tuple -/
theorem back_adjust (n : Nat) : Builtin.Slice.sliceAdjust none none (-1) (n : Int) = ((n : Int) - 1, -1) := by
  have : (-1 : Int) < 0 := by decide
  unfold Builtin.Slice.sliceAdjust
  simp [this]
theorem back_places (n : Nat) : Builtin.Slice.slicePlaces ((n : Int) - 1) (-1) (-1) = n := by
  unfold Builtin.Slice.slicePlaces
  rw [if_neg (show ¬ ((-1 : Int) > 0) by decide)]
  by_cases c : (n : Int) - 1 > -1
  · rw [if_pos c]
    rw [show -(-1 : Int) = 1 by decide, Int.ediv_one]; omega
  · rw [if_neg c]; omega
theorem fm_map {α β : Type} (f : α → Option β) (g : α → β) : ∀ l : List α, (∀ a ∈ l, f a = some (g a)) → l.filterMap f = l.map g
  | [], _ => rfl
  | a :: r, h => by
    rw [List.filterMap_cons, h a List.mem_cons_self, List.map_cons, ← fm_map f g r fun b hb => h b (List.mem_cons_of_mem _ hb)]
theorem back_pick (xs : List Value) : (List.range xs.length).filterMap (fun (k : Nat) => xs.toArray[(((xs.length : Nat) : Int) - 1 + (k : Int) * (-1)).toNat]?) = xs.reverse := by
  have h : ∀ k, k < xs.length → (fun (k : Nat) => xs.toArray[(((xs.length : Nat) : Int) - 1 + (k : Int) * (-1)).toNat]?) k = some (xs.reverse.getD k .none) := fun k hk => by
    show xs.toArray[(((xs.length : Nat) : Int) - 1 + (k : Int) * (-1)).toNat]? = _
    rw [show ((((xs.length : Nat) : Int) - 1 + (k : Int) * (-1)).toNat) = xs.length - 1 - k by omega]
    rw [List.getElem?_toArray, List.getD_eq_getElem?_getD, List.getElem?_reverse hk]
    rw [List.getElem?_eq_getElem (show xs.length - 1 - k < xs.length by omega)]
    rfl
  have e : (List.range xs.length).filterMap (fun (k : Nat) => xs.toArray[(((xs.length : Nat) : Int) - 1 + (k : Int) * (-1)).toNat]?) = (List.range xs.length).map (fun k => xs.reverse.getD k .none) := by
    exact fm_map _ _ _ fun k hk => h k (List.mem_range.mp hk)
  rw [e]
  refine List.ext_getElem (by simp) fun i h1 h2 => ?_
  rw [List.getElem_map, List.getElem_range, List.getD_eq_getElem?_getD, List.getElem?_eq_getElem h2]
  rfl
theorem back_item {prog : Program} {w : World} {A : Around} {E : Value → Shared → Prop} {s : Shared} {t sl : Addr} {its : List Value} {u : Tok} {Q : Value → Shared → Prop} (ht : IsTup s.heap t its.toArray) (hs : s.heap.IsSliceOf sl .none .none (.int (-1) u)) (hz : its.length ≤ sizeLine)
    (h : Q (.ref s.heap.objs.size) { s with heap := s.heap.push { cls := .type "tuple", data := .seq its.reverse.toArray } }) : wpAny (model prog w) A (getItem (.ref t) (.ref sl)) Q E s := by
  have ok : sizeOk (.seq its.reverse.toArray) := by
    show its.reverse.toArray.size ≤ sizeLine
    simpa using hz
  obtain ⟨ob, e1, e2, e3⟩ := id hs
  have isS : s.TypeIs (.ref sl) "slice" := ⟨ob, e1, e2⟩
  unfold getItem
  try with_reducible refine wpAny_holding ?_
  first | refine wpAny_bind (wpAny_pure ?_) | skip
  refine wpAny_bind (wpAny_sequenceKey ht.typeIs (by decide) ?_)
  refine wpAny_bind (wpAny_callSpecial?_slot (name := Str.ofString "__getitem__") ht.typeIs PyProof.Rows.slot_tuple_getitem (wpAny_call_entry PyProof.Rows.slot_tuple_getitem ht.typeIs entry_tuple_getitem ?_ (args_tuple_getitem _ _)))
  show wpAny _ _ (Builtin.Tuple.tupleItemsOf (.ref t) >>= _) _ _ s
  refine wpAny_bind (tupleItemsOf_ ht ?_)
  refine wpAny_bind (wpAny_typeOf isS ?_)
  rw [if_pos (by decide)]
  have ap : ∀ {R : Int × Int × Nat → Shared → Prop} {A2 : Around} {E2 : Value → Shared → Prop}, R (((its.length : Nat) : Int) - 1, -1, its.length) s → wpAny (model prog w) A2 (Builtin.Slice.sliceApplied (.ref sl) (pure ((its.toArray.size : Nat) : Int))) R E2 s := by
    intro R A2 E2 hr
    unfold Builtin.Slice.sliceApplied Builtin.Slice.sliceFields
    refine wpAny_bind (wpAny_bind (wpAny_field e1 e3 (x := .none) rfl (wpAny_bind (wpAny_field e1 e3 (x := .none) rfl (wpAny_bind (wpAny_field e1 e3 (x := .int (-1) u) rfl (wpAny_pure ?_)))))))
    refine wpAny_bind (slicePart_int ?_)
    show wpAny _ _ (if ((-1 : Int) == 0) = true then _ else _) _ _ s
    rw [if_neg (by decide)]
    refine wpAny_bind (slicePart_none (wpAny_bind (slicePart_none (wpAny_bind (wpAny_pure ?_)))))
    rw [show its.toArray.size = its.length by simp]
    show wpAny _ _ (match Builtin.Slice.sliceAdjust none none (-1) ((its.length : Nat) : Int) with | (lo, hi) => pure (lo, (-1 : Int), Builtin.Slice.slicePlaces lo hi (-1))) _ _ s
    rw [back_adjust]
    show wpAny _ _ (pure (((its.length : Nat) : Int) - 1, (-1 : Int), Builtin.Slice.slicePlaces (((its.length : Nat) : Int) - 1) (-1) (-1))) _ _ s
    rw [back_places]
    exact wpAny_pure hr
  refine wpAny_bind (ap ?_)
  have no : ¬ ((((its.length : Nat) : Int) - 1 == 0 && (-1 : Int) == 1 && its.length == its.toArray.size) = true) := by
    intro q
    rw [Bool.and_eq_true, Bool.and_eq_true] at q
    exact absurd (eq_of_beq q.1.2) (by decide)
  show wpAny _ _ (if (((its.length : Nat) : Int) - 1 == 0 && (-1 : Int) == 1 && its.length == its.toArray.size) = true then _ else _) _ _ s
  rw [if_neg no, back_pick]
  first
    | exact wpAny_bind (m := Builtin.Tuple.tupleExact _) (wpAny_newObj_type (wpAny_pure ⟨_, rfl, wpAny_pure h⟩) ok)
    | exact wpAny_bind (m := Builtin.Tuple.tupleExact _) (wpAny_newObj_type (wpAny_bind (wpAny_pure (wpAny_pure ⟨_, rfl, wpAny_pure h⟩))) ok)
    | exact wpAny_bind (wpAny_bind (m := Builtin.Tuple.tupleExact _) (wpAny_newObj_type (wpAny_pure (wpAny_pure ⟨_, rfl, wpAny_pure h⟩)) ok))
    | exact wpAny_bind (wpAny_bind (m := Builtin.Tuple.tupleExact _) (wpAny_newObj_type (wpAny_pure ⟨_, rfl, wpAny_pure h⟩) ok))
def tBkT (K : PySem.W.Frag) (te : TE) (tl th ts : TO) : TE := fun σ H Q => te σ H fun x H1 => tl σ H1 fun lo H2 => th σ H2 fun hi H3 => ts σ H3 fun st H4 => ∃ a xs, x = .ref a ∧ SqT K H4 a xs ∧ lo = none ∧ hi = none ∧ st = some (-1) ∧ NwT H4 xs.reverse Q
theorem vals_back {xs : List V} {its : List Value} (r : Vals xs its) : Vals xs.reverse its.reverse := by
  have app : ∀ {xs ys : List V} {us vs : List Value}, Vals xs us → Vals ys vs → Vals (xs ++ ys) (us ++ vs) := by
    intro xs ys us vs h1 h2
    induction h1 with
    | nil => exact h2
    | cons a _ ih => exact .cons a ih
  induction r with
  | nil => exact .nil
  | cons a t ih => rw [List.reverse_cons, List.reverse_cons]; exact app ih (.cons a .nil)
theorem pe_bkT {X : Cx} {pos : Pos} {e : Expr} {te : TE} {lo hi : Option Expr} {st : Expr} {tl th ts : TO} {p3 : Pos} (he : PE X e te) (hl : PO X lo tl) (hh : PO X hi th) (hst : PO X (some st) ts)
    (hpl : ∀ o i, subscripted (.Slice lo hi (some st) p3) false o i = operate [o, i] (getItem o i) := by intros; with_unfolding_all rfl) : PE X (.Subscript e (.Slice lo hi (some st) p3) pos) (tBkT X.K te tl th ts) := by
  refine ⟨fun pins s σ H Q I h => ?_⟩
  refine Subscript_ (thn (he.run pins s σ H _ I h) fun v s1 ⟨x, H1, I1, r1, q1⟩ => ?_)
  refine wpAny_Slice (thn (hl.run pins s1 σ H1 _ I1 q1) fun vl s2 ⟨l, H2, I2, pl, q2⟩ => ?_)
  refine thn (hh.run pins s2 σ H2 _ I2 q2) fun vu s3 ⟨u, H3, I3, pu, q3⟩ => ?_
  refine thn (hst.run pins s3 σ H3 _ I3 q3) fun vs s4 ⟨o, H4, I4, ps, q4⟩ => ?_
  obtain ⟨a, xs, ex, hx, rfl, rfl, rfl, q⟩ := q4
  subst ex
  cases r1
  cases pl
  cases pu
  cases ps with
  | int i t =>
    have I5 : Inv X pins σ H4 { s4 with heap := s4.heap.push { cls := .type "slice", data := .fields #[.none, .none, .int (-1) t] } } := I4.kept (t' := s4.toks) fun b ob q => Heap.get?_push_of_some _ q
    obtain ⟨its, r, ht, hz⟩ := I5.tuple hx
    have hlen := r.length
    show wpAny (model X.prog X.w) X.A (subscriptTail e (.Slice lo hi (some st) p3) (.ref a) (.ref s4.heap.objs.size)) (EP X pins σ Q) X.xe { s4 with heap := s4.heap.push { cls := .type "slice", data := .fields #[.none, .none, .int (-1) t] } }
    refine tail_any (ops := [.ref a, .ref s4.heap.objs.size]) ht.typeIs (PySem.F.slot_tuple_getitem.lookup) ?_ (hpl _ _)
    refine back_item ht (Heap.IsSliceOf.new _ .none .none (.int (-1) t)) (by omega) ?_
    exact laidT (s := s4) (tk := s4.toks) I5 (vals_back r) (by rw [List.length_reverse]; exact hz) q
def bkT (d : D) (lo hi st : Option Int) : Option D := match d, lo, hi, st with
  | .tuple ds, none, none, some (-1) => some (.tuple ds.reverse)
  | _, _, _, _ => none
@[simp] def xBk (a : Ex) (l h s : PxF) : Ex := fun ρ π => (a ρ π).bind fun x => (l ρ x.2).bind fun y => (h ρ y.2).bind fun z => (s ρ z.2).bind fun w => (bkT x.1 y.1 z.1 w.1).map fun d => (d, w.2)
theorem xBk_some {a : Ex} {l h s : PxF} {ρ : En} {π : Pot} {d : D} {π' : Pot} (e : xBk a l h s ρ π = some (d, π')) : ∃ dx π1 lo π2 hi π3 st, a ρ π = some (dx, π1) ∧ l ρ π1 = some (lo, π2) ∧ h ρ π2 = some (hi, π3) ∧ s ρ π3 = some (st, π') ∧ bkT dx lo hi st = some d := by
  unfold xBk at e
  obtain ⟨x, ea, e⟩ := Option.bind_eq_some_iff.mp e
  obtain ⟨y, eb, e⟩ := Option.bind_eq_some_iff.mp e
  obtain ⟨z, ec, e⟩ := Option.bind_eq_some_iff.mp e
  obtain ⟨w, ed, e⟩ := Option.bind_eq_some_iff.mp e
  obtain ⟨u, ef, e⟩ := Option.map_eq_some_iff.mp e
  cases e
  exact ⟨x.1, x.2, y.1, y.2, z.1, z.2, w.1, ea, eb, ec, ed, ef⟩
theorem ef_bk {ta : TE} {tl th ts : TO} {fa : Ex} {fl fh fs : PxF} (ha : BF K ta fa) (hl : PF K tl fl) (hh : PF K th fh) (hs : PF K ts fs) : EF K (tBkT K ta tl th ts) (xBk fa fl fh fs) := by
  refine ⟨fun fr σ H ρ π R d π' e Q q => ?_⟩
  obtain ⟨dx, π1, lo, π2, hi, π3, st, ea, el, eh, es, ed⟩ := xBk_some e
  refine ha.go fr σ H ρ π R dx π1 ea _ fun x H1 R1 c1 bx => ?_
  refine hl.go fr σ H1 ρ π1 R1 lo π2 el _ fun H2 R2 c2 => ?_
  refine hh.go fr σ H2 ρ π2 R2 hi π3 eh _ fun H3 R3 c3 => ?_
  refine hs.go fr σ H3 ρ π3 R3 st π' es _ fun H4 R4 c4 => ?_
  have b := ((bx.chg R1 c2).chg R2 c3).chg R3 c4
  unfold bkT at ed
  split at ed
  · rename_i ds
    cases ed
    obtain ⟨p, xs, rfl, ep, rp⟩ := b.tuple
    refine ⟨p, xs, rfl, ep.sq, rfl, rfl, rfl, fun l o hl ty => ?_⟩
    exact q _ _ (R4.kp (upN hl)) (c1.trans (c2.trans (c3.trans (c4.trans (.of (upN hl)))))) (dvTup R4.sA hl ty rp.reverse)
  · cases ed
/-! ### a dict of the module's own, texts as keys, that nothing changes -/
def rKin (K : PySem.W.Frag) (d : Addr) : R2 := fun x y H Q => ∃ (z : Str) (r : Option Value), x = .str z ∧ y = .ref d ∧ PySem.W.nsIn K d z = some r ∧ Q (.bl r.isSome) H
def rKit (K : PySem.W.Frag) (d : Addr) : R2 := fun x y H Q => ∃ (z : Str) (u0 : Value) (v0 : V), x = .ref d ∧ y = .str z ∧ PySem.W.nsIn K d z = some (some u0) ∧ RelV v0 u0 ∧ Q v0 H
/-- what the dict tells of a text -/
def KdV (K : PySem.W.Frag) (d : Addr) (z : Str) : Option D → Prop
  | none => PySem.W.nsIn K d z = some none
  | some dd => ∃ (u : Value) (v : V), PySem.W.nsIn K d z = some (some u) ∧ RelV v u ∧ ∀ H S, Dv K H S v dd
def KdT (K : PySem.W.Frag) (d : Addr) : List (Str × Option D) → Prop
  | [] => True
  | (z, r) :: t => KdV K d z r ∧ KdT K d t
def kdAt : List (Str × Option D) → Str → Option (Option D)
  | [], _ => none
  | (z, r) :: t, x => if x = z then some r else kdAt t x
theorem kdAt_ok {d : Addr} : ∀ {t : List (Str × Option D)} {x : Str} {r : Option D}, KdT K d t → kdAt t x = some r → KdV K d x r
  | [], _, _, _, h => by cases h
  | (z, r) :: t, x, r', T, h => by
    unfold kdAt at h
    split at h
    · rename_i c
      cases h
      rw [c]; exact T.1
    · exact kdAt_ok T.2 h
def kdIn (t : List (Str × Option D)) (x : D) : Option D := match x with
  | .str z => (kdAt t z).map fun r => .bool r.isSome
  | _ => none
def kdIt (t : List (Str × Option D)) (x : D) : Option D := match x with
  | .str z => (kdAt t z).bind fun r => r
  | _ => none
@[simp] def xKd (F : D → Option D) (f : Ex) : Ex := fun ρ π => (f ρ π).bind fun x => (F x.1).map fun y => (y, x.2)
theorem ef_kin {d : Addr} {t : List (Str × Option D)} (T : KdT K d t) {te : TE} {f : Ex} (h : BF K te f) : EF K (tOp (rKin K d) te (tC (.ref d))) (xKd (kdIn t) f) := by
  refine ⟨fun fr σ H ρ π R dd π' e Q q => ?_⟩
  unfold xKd at e
  obtain ⟨x, ea, e⟩ := Option.bind_eq_some_iff.mp e
  obtain ⟨y, eb, e⟩ := Option.map_eq_some_iff.mp e
  cases e
  refine h.go fr σ H ρ π R x.1 x.2 ea _ fun v H1 R1 c1 b => ?_
  unfold kdIn at eb
  split at eb
  · rename_i z hz
    rw [hz] at b
    obtain rfl := b.str
    obtain ⟨r, ec, rfl⟩ := Option.map_eq_some_iff.mp eb
    have k := kdAt_ok T ec
    cases r with
    | none => exact ⟨z, none, rfl, rfl, k, q _ H1 R1 c1 (.bl _)⟩
    | some dd =>
      obtain ⟨u, v, k1, k2, k3⟩ := k
      exact ⟨z, some u, rfl, rfl, k1, q _ H1 R1 c1 (.bl _)⟩
  · cases eb
theorem ef_kit {d : Addr} {t : List (Str × Option D)} (T : KdT K d t) {te : TE} {f : Ex} (h : BF K te f) : EF K (tOp (rKit K d) (tC (.ref d)) te) (xKd (kdIt t) f) := by
  refine ⟨fun fr σ H ρ π R dd π' e Q q => ?_⟩
  unfold xKd at e
  obtain ⟨x, ea, e⟩ := Option.bind_eq_some_iff.mp e
  obtain ⟨y, eb, e⟩ := Option.map_eq_some_iff.mp e
  cases e
  refine h.go fr σ H ρ π R x.1 x.2 ea _ fun v H1 R1 c1 b => ?_
  unfold kdIt at eb
  split at eb
  · rename_i z hz
    rw [hz] at b
    obtain rfl := b.str
    obtain ⟨r, ec, er⟩ := Option.bind_eq_some_iff.mp eb
    have k := kdAt_ok T ec
    cases r with
    | none => cases er
    | some dd =>
      cases er
      obtain ⟨u, v, k1, k2, k3⟩ := k
      exact ⟨z, u, v, rfl, rfl, k1, k2, q _ H1 R1 c1 (k3 _ _)⟩
  · cases eb
theorem ix_kd {X : Cx} {d : Addr} {es : Array DictEntry} {n : Nat} (D : KDict X.K X.w d es n) : IxR X (rKit X.K d) := by
  intro a b pins s σ H x y v u Q I rx ry h hs
  obtain ⟨z, u0, v0, rfl, rfl, hn, hv, q⟩ := h
  cases rx
  obtain ⟨t, rfl⟩ := ry
  exact tail_any (ops := [.ref d, .str z t]) (kd_type D I) PySem.F.slot_dict_getitem.lookup (op_item_kd D pins s σ H (.ref d) (.str z) _ _ Q I rfl ⟨t, rfl⟩ ⟨z, u0, v0, rfl, rfl, hn, hv, q⟩) hs
/-- a tuple of the module's own -/
theorem dv_kept {a : Addr} {cl : Value} {dd : Option Addr} {its : Array Value} {n : Nat} {sl : Array (Option Value)} {xs : List V} {ds : List D} (lk : K.lookup a = some { cls := cl, dict := dd, data := .seq its n, slots := sl }) (hd : dd = none) (hc : cl = .type "tuple") (hz : its.size ≤ sizeLine) (r : Vals xs its.toList) (h : ∀ H S, DvA K H S xs ds) : ∀ H S, Dv K H S (.ref a) (.tuple ds) := fun H S =>
  .tup (.inr ⟨_, its, n, lk, ⟨hc, hd⟩, rfl, hz, r⟩) (h H S)
end FL

noncomputable section
namespace FL
open PySem PySem.Spec PyProof.Rows L2 EP
variable {K : PySem.W.Frag}
/-! ### right(pot(script, k)): a pot of its own for each k -/
def potL : D → Option Pot
  | .list ds => intsO ds
  | _ => none
def xLaw (i j : Nat) (FP : List Int → D → Option D) (FR : Pot → List D → Option (D × Pot)) : Ex := fun ρ π => match ρ[i]?, ρ[j]? with
  | some (.scr ns), some (.dat (.int k)) => (FP ns (.int k)).bind fun r => (potL r).bind fun p => (FR p []).bind fun x => (isB x.1).map fun b => (.bool b, π)
  | _, _ => none
theorem ef_lawR {i j : Nat} {FP : List Int → D → Option D} {FR : Pot → List D → Option (D × Pot)} {E1 E2 : XK} : EF K (tCall (SpP K false [] FR) [] E2 (tCons (tCall (SpS K FP) [] E1 (tCons (tVar i) (tCons (tVar j) tNil))) tNil)) (xLaw i j FP FR) := by
  refine ⟨fun fr σ H ρ π R d π' e Q q => ?_⟩
  unfold xLaw at e
  split at e
  · rename_i ns k hi hj
    obtain ⟨r, e1, e⟩ := Option.bind_eq_some_iff.mp e
    obtain ⟨p, e2, e⟩ := Option.bind_eq_some_iff.mp e
    obtain ⟨x, e3, e⟩ := Option.bind_eq_some_iff.mp e
    obtain ⟨b, e4, e⟩ := Option.map_eq_some_iff.mp e
    cases e
    obtain ⟨a, ev, eq, nu⟩ := R.slot i _ hi
    obtain ⟨v, ew, dv⟩ := R.slot j _ hj
    have vk : v = .int k := by cases dv; rfl
    subst vk
    refine ⟨_, ev, _, ew, ?_⟩
    refine ⟨a, ns, k, r, rfl, eq, e1, fun v H1 kp dn => ?_⟩
    obtain ⟨l, xs, ds, rfl, rfl, nl, el, _, dd⟩ := dn
    have e2 : intsO ds = some p := e2
    rw [ints_some e2] at dd
    obtain rfl := dvInts dd
    obtain ⟨d2, π2⟩ := x
    have hb := isB_some e4
    simp only at hb
    subst hb
    refine ⟨fun z => z = l, l, [], p, [], _, π2, rfl, (fun z hz => by rw [hz, el]; intro y; cases y), rfl, el, trivial, e3, fun w H2 bt _ dw => ?_⟩
    rw [if_neg (by decide)] at dw
    cases dw
    have k2 : Kp H H2 := fun z o hz => bt z o (fun c => by rw [c, nl] at hz; cases hz) (kp z o hz)
    exact q _ H2 (R.kp k2) (.of k2) (.bl _)
  · cases e
/-- a law that looks at the script alone -/
def runL (n : Nat) (b : Sx) : List Int → Option D := fun ns => (outOf (b (.scr ns :: List.replicate n .un) [])).map (·.1)
theorem SF.spL {N : List Str} {n : Nat} {t : TS} {b : Sx} (h : SF K false t b) (hn : N.length = n + 1) {a : Addr} {ns : List Int} {H : Hp} {Q : VK}
    (hq : SqL K H a (ns.map V.int)) (e : runL n b ns = some (.bool true)) (q : ∀ H', Q (.bl true) H') (z : ∀ ρ π ρ' π', b ρ π = some (ρ', π', .nx) → False) : t { nx := fun _ H' => Q .non H', rt := Q } (start N [.ref a]) H := by
  unfold runL at e
  cases eo : outOf (b (.scr ns :: List.replicate n .un) []) with
  | none => rw [eo] at e; cases e
  | some x =>
    rw [eo] at e
    have e1 : x.1 = .bool true := by simpa using e
    obtain ⟨d1, π1⟩ := x
    simp only at e1
    subst e1
    have unO : ∀ {i : Nat} {s : Slot}, (List.replicate n Slot.un)[i]? = some s → s = .un := fun {i s} h2 => by
      obtain ⟨_, e⟩ := List.getElem?_eq_some_iff.mp h2
      simp at e
      exact e.symm
    have slots : ∀ {i : Nat} {s : Slot}, (Slot.scr ns :: List.replicate n Slot.un)[i]? = some s → s.isOwn = false := fun {i s} e => by
      match i with
      | 0 => cases e; rfl
      | i + 1 => rw [unO e]; rfl
    have noOwn : ∀ b, ¬ IsOwn (L2.start N [.ref a]) (.scr ns :: List.replicate n .un) b := by
      rintro b ⟨i, s, e1, e2, _⟩
      rw [slots e1] at e2; cases e2
    have R : Rel K ⟨fun _ => False, none⟩ (L2.start N [.ref a]) H (.scr ns :: List.replicate n .un) [] := by
      refine ⟨by rw [start_len (by simp; omega)]; simp [hn], fun i s e => ?_, fun i j s t b e1 e2 o1 => (by rw [slots e1] at o1; cases o1), fun b y => y.elim, fun b y => (by cases y), fun b y => (noOwn b y).elim⟩
      match i with
      | 0 => cases e; exact ⟨a, rfl, hq, fun z => z.elim (fun z => by cases z) (noOwn a)⟩
      | i + 1 => rw [unO e]; trivial
    rcases outOf_some eo with ⟨ρ', e2⟩ | ⟨ρ', e2, e3⟩
    · refine h.go ⟨fun _ => False, none⟩ _ H _ [] R ρ' π1 _ e2 _ fun v σ' H' R' s' rv => ?_
      unfold RV at rv
      rw [if_neg (by decide)] at rv
      cases rv
      exact q H'
    · exact (z _ _ _ _ e2).elim
end FL

noncomputable section
namespace FL
open PySem PySem.Spec PyProof.Rows L2 EP
variable {K : PySem.W.Frag}
theorem un1of {n : Nat} (h : n + 66 < cLine) : n + 1 < cLine := by omega
/-! ### dicts of a def's own: whole numbers and texts as keys -/
def valG {α : Type} (kvs : List (Key × α)) (k : Key) : Option α := (kvs.find? fun kv => decide (kv.1 = k)).map (·.2)
def putG {α : Type} (kvs : List (Key × α)) (k : Key) (v : α) : List (Key × α) :=
  if (kvs.any fun kv => decide (kv.1 = k)) = true then kvs.map (fun kv => if kv.1 = k then (kv.1, v) else kv) else kvs ++ [(k, v)]
def keyD : D → Option Key
  | .int i => some (.inl i)
  | .str s => some (.inr s)
  | _ => none
theorem keyD_some {fr : Fm} {H : Hp} {S : Addr → Prop} {v : V} {d : D} {k : Key} (h : keyD d = some k) (b : Db K fr H S v d) : v = kV k := by
  unfold keyD at h
  split at h
  · cases h; exact b.int
  · cases h; exact b.str
  · cases h
theorem val_rel {H : Hp} {S : Addr → Prop} {k : Key} : ∀ {ks : List (Key × V)} {kvs : List (Key × D)}, ks.map (·.1) = kvs.map (·.1) → DvA K H S (ks.map (·.2)) (kvs.map (·.2)) → (L2.valV ks k = none ∧ valG kvs k = none) ∨ ∃ v d, L2.valV ks k = some v ∧ valG kvs k = some d ∧ Dv K H S v d
  | [], [], _, _ => .inl ⟨rfl, rfl⟩
  | [], _ :: _, m, _ => by cases m
  | _ :: _, [], m, _ => by cases m
  | a :: ks, b :: kvs, m, dv => by
    have m1 : a.1 = b.1 ∧ ks.map (·.1) = kvs.map (·.1) := by simpa using m
    cases dv with
    | cons h1 h2 =>
      unfold L2.valV valG
      by_cases c : b.1 = k
      · right
        refine ⟨a.2, b.2, ?_, ?_, h1⟩
        · rw [List.find?_cons_of_pos (by simp [m1.1, c])]; rfl
        · rw [List.find?_cons_of_pos (by simp [c])]; rfl
      · rw [List.find?_cons_of_neg (by simp [m1.1, c]), List.find?_cons_of_neg (by simp [c])]
        exact val_rel (k := k) m1.2 h2
theorem put_any {ks : List (Key × V)} {kvs : List (Key × D)} {k : Key} (m : ks.map (·.1) = kvs.map (·.1)) : (ks.any fun kv => decide (kv.1 = k)) = (kvs.any fun kv => decide (kv.1 = k)) := by
  have e1 : (ks.any fun kv => decide (kv.1 = k)) = (ks.map (·.1)).any fun x => decide (x = k) := by rw [List.any_map]; rfl
  have e2 : (kvs.any fun kv => decide (kv.1 = k)) = (kvs.map (·.1)).any fun x => decide (x = k) := by rw [List.any_map]; rfl
  rw [e1, e2, m]
theorem put_map {H : Hp} {S : Addr → Prop} {k : Key} {v : V} {d : D} (h : Dv K H S v d) : ∀ {ks : List (Key × V)} {kvs : List (Key × D)}, ks.map (·.1) = kvs.map (·.1) → DvA K H S (ks.map (·.2)) (kvs.map (·.2)) →
    (ks.map (fun kv => if kv.1 = k then (kv.1, v) else kv)).map (·.1) = (kvs.map (fun kv => if kv.1 = k then (kv.1, d) else kv)).map (·.1) ∧ DvA K H S ((ks.map (fun kv => if kv.1 = k then (kv.1, v) else kv)).map (·.2)) ((kvs.map (fun kv => if kv.1 = k then (kv.1, d) else kv)).map (·.2))
  | [], [], _, _ => ⟨rfl, .nil⟩
  | [], _ :: _, m, _ => by cases m
  | _ :: _, [], m, _ => by cases m
  | a :: ks, b :: kvs, m, dv => by
    have m1 : a.1 = b.1 ∧ ks.map (·.1) = kvs.map (·.1) := by simpa using m
    cases dv with
    | cons h1 h2 =>
      obtain ⟨i1, i2⟩ := put_map h m1.2 h2
      by_cases c : b.1 = k
      · have c' : a.1 = k := m1.1.trans c
        simp only [List.map_cons, if_pos c, if_pos c']
        exact ⟨by rw [i1, m1.1], .cons h i2⟩
      · have c' : ¬ a.1 = k := fun z => c (m1.1.symm.trans z)
        simp only [List.map_cons, if_neg c, if_neg c']
        exact ⟨by rw [i1, m1.1], .cons h1 i2⟩
theorem put_rel {H : Hp} {S : Addr → Prop} {k : Key} {v : V} {d : D} (h : Dv K H S v d) {ks : List (Key × V)} {kvs : List (Key × D)} (m : ks.map (·.1) = kvs.map (·.1)) (dv : DvA K H S (ks.map (·.2)) (kvs.map (·.2))) :
    (L2.putK ks k v).map (·.1) = (putG kvs k d).map (·.1) ∧ DvA K H S ((L2.putK ks k v).map (·.2)) ((putG kvs k d).map (·.2)) := by
  unfold L2.putK putG
  rw [put_any m]
  split
  · exact put_map h m dv
  · refine ⟨by simp [m], ?_⟩
    rw [List.map_append, List.map_append]
    exact dv.append (.cons h .nil)
/-- d[k] -/
@[simp] def xDG (i : Nat) (f : Ex) : Ex := fun ρ π => match ρ[i]? with
  | some (.dct kvs) => (f ρ π).bind fun y => (keyD y.1).bind fun k => (valG kvs k).map fun d => (d, y.2)
  | _ => none
theorem ef_dget {i : Nat} {ty : TE} {f : Ex} (hf : BF K ty f) : EF K (tDGet (tVar i) ty) (xDG i f) := by
  refine ⟨fun fr σ H ρ π R d π' e Q q => ?_⟩
  unfold xDG at e
  split at e
  · rename_i kvs hs
    obtain ⟨y, e1, e⟩ := Option.bind_eq_some_iff.mp e
    obtain ⟨k, e2, e⟩ := Option.bind_eq_some_iff.mp e
    obtain ⟨dd, e3, e⟩ := Option.map_eq_some_iff.mp e
    cases e
    obtain ⟨a, ks, ev, ea, m, dv⟩ := R.slot i _ hs
    refine ⟨_, ev, ?_⟩
    refine hf.go fr σ H ρ π R y.1 y.2 e1 _ fun yv H1 R1 c1 b => ?_
    obtain ⟨a', ks', ev', ea', m', dv'⟩ := R1.slot i _ hs
    rw [ev] at ev'
    cases ev'
    obtain rfl := keyD_some e2 b
    rcases val_rel (k := k) m' dv' with ⟨_, z⟩ | ⟨v, d2, z1, z2, z3⟩
    · rw [z] at e3; cases e3
    · rw [z2] at e3
      cases e3
      have g := DGet.k (k := k) ea'
      rw [z1] at g
      exact ⟨a, v, rfl, g, q _ H1 R1 c1 z3⟩
  · cases e
/-- d.get(k, x) -/
@[simp] def xDG2 (i : Nat) (f g : Ex) : Ex := fun ρ π => match ρ[i]? with
  | some (.dct kvs) => (f ρ π).bind fun y => (keyD y.1).bind fun k => (g ρ y.2).map fun z => ((valG kvs k).getD z.1, z.2)
  | _ => none
theorem ef_dget2 {i : Nat} {ty tx : TE} {f g : Ex} (hf : BF K ty f) (hg : EF K tx g) : EF K (tDGet2 (tVar i) ty tx) (xDG2 i f g) := by
  refine ⟨fun fr σ H ρ π R d π' e Q q => ?_⟩
  unfold xDG2 at e
  split at e
  · rename_i kvs hs
    obtain ⟨y, e1, e⟩ := Option.bind_eq_some_iff.mp e
    obtain ⟨k, e2, e⟩ := Option.bind_eq_some_iff.mp e
    obtain ⟨z, e3, e⟩ := Option.map_eq_some_iff.mp e
    cases e
    obtain ⟨a, ks, ev, ea, m, dv⟩ := R.slot i _ hs
    refine ⟨_, ev, a, rfl, .inl ⟨ks, .inl ea⟩, ?_⟩
    refine hf.go fr σ H ρ π R y.1 y.2 e1 _ fun yv H1 R1 c1 b => ?_
    obtain rfl := keyD_some e2 b
    refine hg.go fr σ H1 ρ y.2 R1 z.1 z.2 e3 _ fun zv H2 R2 c2 bz => ?_
    obtain ⟨a', ks', ev', ea', m', dv'⟩ := R2.slot i _ hs
    rw [ev] at ev'
    cases ev'
    refine ⟨_, DGet.k (k := k) ea', ?_⟩
    rcases val_rel (k := k) m' dv' with ⟨z1, z2⟩ | ⟨v, d2, z1, z2, z3⟩
    · rw [z1]
      refine q _ H2 R2 (c1.trans c2) ?_
      rw [z2]; exact bz
    · rw [z1]
      refine q _ H2 R2 (c1.trans c2) ?_
      rw [z2]; exact z3
  · cases e
/-- d[k] = e -/
@[simp] def sDP (i : Nat) (f g : Ex) : Sx := fun ρ π => (f ρ π).bind fun y => (g ρ y.2).bind fun z => match ρ[i]? with
  | some (.dct kvs) => (keyD z.1).bind fun k => if kvs.length < 100000 then some (ρ.set i (.dct (putG kvs k y.1)), z.2, .nx) else none
  | _ => none
theorem sf_dput {nw : Bool} {i : Nat} {te ti : TE} {f g : Ex} (h : EF K te f) (hg : BF K ti g) : SF K nw (sDPut (tVar i) ti te) (sDP i f g) := by
  refine ⟨fun fr σ H ρ π R ρ' π' o e D q => ?_⟩
  unfold sDP at e
  obtain ⟨y, e1, e⟩ := Option.bind_eq_some_iff.mp e
  obtain ⟨z, e2, e⟩ := Option.bind_eq_some_iff.mp e
  split at e
  · rename_i kvs hs
    obtain ⟨k, e3, e⟩ := Option.bind_eq_some_iff.mp e
    split at e
    · rename_i ln
      cases e
      refine h.go fr σ H ρ π R y.1 y.2 e1 _ fun v H1 R1 c1 b => ?_
      obtain ⟨a, ks, ev, ea, m, dv⟩ := R1.slot i _ hs
      refine ⟨_, ev, ?_⟩
      refine hg.go fr σ H1 ρ y.2 R1 z.1 z.2 e2 _ fun kv H2 R2 c2 b2 => ?_
      obtain rfl := keyD_some e3 b2
      obtain ⟨a', ks', ev', ea', m', dv'⟩ := R2.slot i _ hs
      rw [ev] at ev'
      cases ev'
      have oa : IsOwn σ ρ a := ⟨i, _, hs, rfl, ev⟩
      have lk : ks'.length = kvs.length := by
        have := congrArg List.length m'
        simpa using this
      refine ⟨a, _, rfl, DPut.k (k := k) ea' (szLt (by rw [lk]; exact ln)), ?_⟩
      have upq : Step ⟨fun b => b = a, (wd fr σ ρ H2).S, H2⟩ ⟨fun b => b = a, (wd fr σ ρ H2).S, upd H2 a (.dK (L2.putK ks' k v))⟩ :=
        ⟨fun b u n z => by show L2.upd H2 a _ b = _; rw [upd_ne n]; exact z, fun b z => .inl z, fun b z => .inl z⟩
      have us2 : ∀ b, b = a → (wd fr σ ρ H2).S b := fun b z => .inr (by rw [z]; exact oa)
      have bv := b.step R1.us (c2.step σ ρ)
      obtain ⟨p1, p2⟩ := put_rel (k := k) bv m' dv'
      obtain ⟨R3, s3⟩ := R2.put (o := .dK (L2.putK ks' k v)) (s' := .dct (putG kvs k y.1)) hs rfl rfl ev ⟨a, _, ev, upd_same, p1, p2.step (A := ⟨fun b => b = a, (wd fr σ ρ H2).S, H2⟩) us2 upq⟩
      exact q σ _ R3 (((c1.trans c2).step σ ρ).trans R.us s3)
    · cases e
  · cases e
theorem Rel.setDct {fr : Fm} {σ : L2.St} {H H' : Hp} {ρ : En} {π π' : Pot} (R : Rel K fr σ H ρ π) (R' : Rel K fr σ H' ρ π') (c : ChgP fr H H') {i : Nat} {p : Addr}
    (h0 : H p = none) (h1 : H' p = some (.dK []))
    (hscr : ∀ (j : Nat) (ns : List Int) (a : Addr), ρ[j]? = some (.scr ns) → σ[j]? = some (some (.ref a)) → a ≠ p) :
    Rel K fr (σ.set i (some (.ref p))) H' (ρ.set i (.dct [])) π' ∧ Step (wd fr σ ρ H) (wd fr (σ.set i (some (.ref p))) (ρ.set i (.dct [])) H') := by
  have ow : ∀ a, IsOwn (σ.set i (some (.ref p))) (ρ.set i (.dct [])) a → IsOwn σ ρ a ∨ a = p := by
    rintro a ⟨j, s, e, o, q⟩
    by_cases z : i = j
    · subst z
      rw [List.getElem?_set_self'] at q
      cases y : σ[i]? with
      | none => rw [y] at q; cases q
      | some w =>
        rw [y] at q
        have q2 : some (V.ref p) = some (V.ref a) := Option.some.inj q
        cases q2
        exact .inr rfl
    · rw [List.getElem?_set_ne z] at e q
      exact .inl ⟨j, s, e, o, q⟩
  have nown : ¬ IsOwn σ ρ p := fun z => R.ownSome z h0
  have st : Step (wd fr σ ρ H) (wd fr (σ.set i (some (.ref p))) (ρ.set i (.dct [])) H') := by
    refine ⟨fun b o n z => c b o (fun y => n (.inl y)) z, fun a z => ?_, fun a z => ?_⟩
    · rcases z with z | z
      · exact .inl (.inl z)
      · rcases ow a z with z | z
        · exact .inl (.inr z)
        · exact .inr (by rw [z]; exact h0)
    · rcases z with z | z
      · exact .inl (.inl z)
      · rcases ow a z with z | z
        · exact .inl (.inr z)
        · exact .inr (by rw [z]; exact h0)
  refine ⟨⟨by simp [R.len], fun j s e => ?_, fun j k s t a e1 e2 o1 o2 q1 q2 => ?_, R'.all, fun a h => ?_, fun a h => ?_⟩, st⟩
  · by_cases z : i = j
    · subst z
      have l : i < ρ.length := by
        have := (List.getElem?_eq_some_iff.mp e).1
        simpa using this
      rw [List.getElem?_set_self l] at e
      cases e
      exact ⟨p, [], by rw [List.getElem?_set_self (by rw [R.len]; exact l)], h1, rfl, .nil⟩
    · rw [List.getElem?_set_ne z] at e ⊢
      have sl := R.slot j s e
      have nu : ∀ a, (wd fr (σ.set i (some (.ref p))) (ρ.set i (.dct [])) H').U a → (wd fr σ ρ H).U a ∨ a = p := fun a z => by
        rcases z with z | z
        · exact .inl (.inl z)
        · exact (ow a z).imp .inr id
      cases s with
      | un => trivial
      | dat d => obtain ⟨v, e, q⟩ := sl; exact ⟨v, e, q.step R.us st⟩
      | arg es =>
        obtain ⟨a, ys, e, q, n, r⟩ := sl
        refine ⟨a, ys, e, st.keep _ _ n q, fun z => ?_, r.step R.us st⟩
        rcases nu a z with z | z
        · exact n z
        · rw [z] at q
          have q : H p = _ := q
          rw [h0] at q; cases q
      | own es =>
        obtain ⟨a, ys, e3, q, r⟩ := sl
        have np : fr.pt ≠ some a := fun z => (R.pt a z).2.1 ⟨j, _, e, rfl, e3⟩
        exact ⟨a, ys, e3, c _ _ np q, r.step R.us st⟩
      | dct kvs =>
        obtain ⟨a, ys, e3, q, m, r⟩ := sl
        have np : fr.pt ≠ some a := fun z => (R.pt a z).2.1 ⟨j, _, e, rfl, e3⟩
        exact ⟨a, ys, e3, c _ _ np q, m, r.step R.us st⟩
      | pot => exact sl
      | scr ns =>
        obtain ⟨a, e3, q, n⟩ := sl
        refine ⟨a, e3, ?_, fun z => ?_⟩
        · rcases q with (q | ⟨u, q⟩) | q
          · exact .inl (.inl (st.keep _ _ n q))
          · exact .inl (.inr ⟨u, st.keep _ _ n q⟩)
          · exact .inr q
        · rcases nu a z with z | z
          · exact n z
          · exact hscr j ns a e e3 z
  · by_cases d1 : i = j
    · by_cases d2 : i = k
      · rw [← d1, ← d2]
      · exfalso
        subst d1
        rw [List.getElem?_set_self'] at q1
        rw [List.getElem?_set_ne d2] at e2 q2
        cases y : σ[i]? with
        | none => rw [y] at q1; cases q1
        | some w =>
          rw [y] at q1
          have q3 : some (V.ref p) = some (V.ref a) := Option.some.inj q1
          cases q3
          exact nown ⟨k, t, e2, o2, q2⟩
    · by_cases d2 : i = k
      · exfalso
        subst d2
        rw [List.getElem?_set_self'] at q2
        rw [List.getElem?_set_ne d1] at e1 q1
        cases y : σ[i]? with
        | none => rw [y] at q2; cases q2
        | some w =>
          rw [y] at q2
          have q3 : some (V.ref p) = some (V.ref a) := Option.some.inj q2
          cases q3
          exact nown ⟨j, s, e1, o1, q1⟩
      · rw [List.getElem?_set_ne d1] at e1 q1
        rw [List.getElem?_set_ne d2] at e2 q2
        exact R.nd j k s t a e1 e2 o1 o2 q1 q2
  · obtain ⟨p1, p2, p3⟩ := R'.pt a h
    refine ⟨p1, fun z => ?_, p3⟩
    rcases ow a z with z | z
    · exact p2 z
    · rw [z] at p1
      exact R.all p p1 h0
  · rcases ow a h with z | z
    · exact R.os a z
    · rw [z]; exact fun y => R.all p y h0
/-- d = {} -/
@[simp] def sDN (i : Nat) : Sx := fun ρ π => if hasScr ρ = true then none else some (ρ.set i (.dct []), π, .nx)
theorem sf_dnew {nw : Bool} {i : Nat} : SF K nw (tAsg tDNewK (gName i)) (sDN i) := by
  refine ⟨fun fr σ H ρ π R ρ' π' o e D q => ?_⟩
  unfold sDN at e
  split at e
  · cases e
  · rename_i hs
    have hs : hasScr ρ = false := by simpa using hs
    cases e
    intro p hp
    have R1 : Rel K fr σ (upd H p (.dK [])) ρ π := R.kp (upN hp)
    obtain ⟨R2, s2⟩ := R.setDct R1 (.of (upN hp)) (i := i) hp upd_same (fun j ns a e1 _ => (noScr hs e1).elim)
    exact q _ _ R2 s2
/-- list(d.items()) -/
theorem dv_key {H : Hp} {S : Addr → Prop} (k : Key) : Dv K H S (kV k) (keyV k) := by
  cases k with
  | inl i => exact .int i
  | inr s => exact .str s
def rowsK (kvs : List (Key × D)) : List D := kvs.map fun kv => .tuple [keyV kv.1, kv.2]
@[simp] def xItems (i : Nat) : Ex := fun ρ π => match ρ[i]? with
  | some (.dct kvs) => some (.list (rowsK kvs), π)
  | _ => none
/-- list(d) -/
def rListDK : List V → Hp → VK → Prop := fun xs H Q => ∃ (a : Addr) (kvs : List (Key × V)), xs = [.ref a] ∧ Rd H a (.dK kvs) ∧ ∀ p, H p = none → Q (.ref p) (upd H p (.lst (kvs.map fun kv => kV kv.1)))
theorem cr_listD {X : Cx} (hc : X.calm = true) : CallR X (.type "list") rListDK := call_listD hc
@[simp] def xKeys (i : Nat) : Ex := fun ρ π => match ρ[i]? with
  | some (.dct kvs) => some (.list (kvs.map fun kv => keyV kv.1), π)
  | _ => none
theorem dvA_keys {H : Hp} {S : Addr → Prop} : ∀ {ks : List (Key × V)} {kvs : List (Key × D)}, ks.map (·.1) = kvs.map (·.1) → DvA K H S (ks.map fun kv => kV kv.1) (kvs.map fun kv => keyV kv.1)
  | [], [], _ => .nil
  | [], _ :: _, m => by cases m
  | _ :: _, [], m => by cases m
  | a :: ks, b :: kvs, m => by
    have m1 : a.1 = b.1 ∧ ks.map (·.1) = kvs.map (·.1) := by simpa using m
    refine .cons ?_ (dvA_keys m1.2)
    show Dv K H S (kV a.1) (keyV b.1)
    rw [m1.1]; exact dv_key _
theorem nf_keys {i : Nat} : NF K (tCB rListDK (tCons (tVar i) tNil)) (xKeys i) := by
  refine ⟨fun fr σ H ρ π R d π' e Q q => ?_⟩
  unfold xKeys at e
  split at e
  · rename_i kvs hs
    cases e
    obtain ⟨a, ks, ev, ea, m, dv⟩ := R.slot i _ hs
    refine ⟨_, ev, a, ks, rfl, .inl ea, fun p hp => ?_⟩
    exact q _ _ (R.kp (upN hp)) (.of (upN hp)) (dnNew R.sA hp (dvA_keys m))
  · cases e
end FL

noncomputable section
namespace FL
open PySem PySem.Spec PyProof.Rows L2 EP
variable {K : PySem.W.Frag}
/-! ### reversed(list) -/
theorem itv_ok {a : Addr} {xs : List V} {ds : List D} {n : Nat} (hn : n = ds.length) : ItOk K false (Itv K a n) (LPre K a xs ds) ds.reverse := by
  subst hn
  refine ⟨fun A B us h x => h.step us x, fun i A h l => (by rw [List.length_reverse] at l; exact l), fun i d A al h e => ?_⟩
  have li : i < ds.length := by
    have := (List.getElem?_eq_some_iff.mp e).1
    rwa [List.length_reverse] at this
  rw [List.getElem?_reverse li] at e
  obtain ⟨v, ev, dv⟩ := h.2.2.get e
  refine ⟨⟨li, xs, v, sqL h.1, ev⟩, fun x H' y => ?_⟩
  obtain ⟨e1, e2⟩ := y
  subst e1
  have e3 := e2 xs (sqL h.1)
  rw [ev] at e3
  cases e3
  exact ⟨Kp.refl _, .inl dv⟩
@[simp] def iRv (f : Ex) : Ax := fun ρ π => (iL f ρ π).map fun x => (x.1.reverse, x.2)
theorem if_rev {t : TE} {f : Ex} (h : LF K t f) : IF K false (iRev K (tCons t tNil)) (iRv f) := by
  refine ⟨fun fr σ H ρ π R ds π' e Q q => ?_⟩
  unfold iRv at e
  obtain ⟨x, e1, e⟩ := Option.map_eq_some_iff.mp e
  cases e
  refine h.go fr σ H ρ π R x.1 x.2 (iL_some e1) _ fun a xs H' R' c p => ?_
  exact ⟨a, xs, rfl, sqL p.1, q _ _ H' R' c (itv_ok (by rw [p.2.2.length])) p⟩
/-- a target's names in another order -/
theorem gf_sub {w : Bool} {vs ws : List Nat} {g : TG} {f : Gx} (s : ∀ i, i ∈ vs → i ∈ ws) (h : GF K w vs g f) : GF K w ws g f :=
  ⟨fun d ρ ρ' e i n => h.ag d ρ ρ' e i fun z => n (s i z), fun fr σ H ρ π R v d dv ρ' e Q q => h.go fr σ H ρ π R v d dv ρ' e Q fun σ' R' st ag ow => q σ' R' st ⟨ag.1, fun i n => ag.2 i fun z => n (s i z)⟩ ow⟩
end FL

noncomputable section
namespace FL
open PySem PySem.Spec PyProof.Rows L2 EP
variable {K : PySem.W.Frag}
/-! ### sorted(..) of whole numbers in a list or a tuple -/
def rSortA (K : PySem.W.Frag) : List V → Hp → VK → Prop := fun vs H Q => ∃ (a : Addr) (ns : List Int), vs = [V.ref a] ∧ (SqL K H a (ns.map V.int) ∨ SqT K H a (ns.map V.int)) ∧
  ∀ (ms : List Int) (p : Addr), ms.Perm ns → ms.Pairwise (· ≤ ·) → H p = none → Q (.ref p) (upd H p (.lst (ms.map V.int)))
theorem sorted_any {prog : Program} {w : World} {A : Around} {E : Value → Shared → Prop} {s : Shared} {a : Addr} {T : String} {o : Obj} {its : List Value} {n : Nat} {ns : List Int} {Q : Value → Shared → Prop}
    (hT : T = "list" ∨ T = "tuple") (ho : s.heap.get? a = some o) (hc : o.cls = .type T) (hd : o.data = .seq its.toArray n) (hi : IntsAre its ns) (hz : its.length ≤ sizeLine)
    (h : ∀ (out : List Value) (ms : List Int) (g h2 : Heap), (∀ b u, s.heap.get? b = some u → g.get? b = some u) → (∀ b u, g.get? b = some u → h2.get? b = some u) → IntsAre out ms → ms.Perm ns → ms.Pairwise (· ≤ ·) → (∃ e, h2.get? g.objs.size = some (seqObj "list" out.toArray e)) → Q (.ref g.objs.size) { s with heap := h2 }) :
    wpAny (model prog w) A (call (.builtin "sorted") [.ref a]) Q E s := by
  refine Calls.call_function_entry kind_sorted plain_sorted entry_sorted (args_sorted1 _) ?_
  unfold Builtin.«sorted»
  refine wpAny_bind (m := checkCount "sorted" 1 1 _) (wpAny_pure ?_)
  refine wpAny_bind (wpAny_collect_seq a hT ho hc hd (fun g kg => ?_) (by simpa using hz))
  refine wpAny_bind (wpAny_newList ?_ (by simpa using hz))
  have at0 : (g.push (seqObj "list" its.toArray 0)).get? g.objs.size = some (seqObj "list" its.toArray 0) := Heap.get?_push_size _ rfl
  show wpAny _ _ _ _ _ { s with heap := g.push (seqObj "list" its.toArray 0) }
  refine wpAny_bind (wpAny_holding (wpAny_call_entry slot_list_sort ⟨_, at0, rfl⟩ entry_list_sort (SrtO.list_sort_ord SrtO.swo_int at0 hz (fun two => SrtO.ints_sortable hi two) fun out hs hb => ⟨_, rfl, ?_⟩) (args_list_sort _)))
  obtain ⟨k1, k2, k3⟩ := SrtO.ints_out hi hs hb
  refine wpAny_pure ⟨_, rfl, ?_⟩
  refine h out _ g _ kg (fun b u q => ?_) k1 k2 k3 (sortedHeap_at at0)
  have lt : b < g.objs.size := Heap.lt_size q
  have q2 : (g.push (seqObj "list" its.toArray 0)).get? b = some u := Heap.get?_push_of_some _ q
  rw [sortedHeap_old (Nat.ne_of_lt lt) (Heap.lt_size q2)]
  exact q2
theorem cr_sortA {X : Cx} : CallR X (.builtin "sorted") (rSortA X.K) := by
  intro pins s σ H vs us Q I r h
  obtain ⟨a, ns, rfl, hs, q⟩ := h
  have main : ∀ (T : String) (o : Obj) (its : List Value) (n : Nat), (T = "list" ∨ T = "tuple") → s.heap.get? a = some o → o.cls = .type T → o.data = .seq its.toArray n → Vals (ns.map V.int) its → (ns.map V.int).length ≤ sizeLine → wpAny (model X.prog X.w) X.A (call (.builtin "sorted") us) (EP X pins σ Q) X.xe s := by
    intro T o its n hT ho hc hd rv hz
    rw [Vals.ref1 r]
    refine sorted_any hT ho hc hd rv.ints (by rw [← rv.length]; exact hz) fun out ms g h2 kg kh k1 k2 k3 he => ?_
    obtain ⟨e, he⟩ := he
    have hlen : (ms.map V.int).length ≤ sizeLine := by
      rw [List.length_map, k2.length_eq]
      rw [List.length_map] at hz
      exact hz
    have I1 : Inv X pins σ H { s with heap := g } := I.kept (t' := s.toks) kg
    exact ⟨.ref _, upd H g.objs.size (.lst (ms.map V.int)), I1.laid (t' := s.toks) kh (Nat.le_refl _) (show ObjOk X.prog X.w _ h2 _ (.lst (ms.map V.int)) from ⟨hlen, out, e, vals_of_ints k1, he⟩), rfl, q ms _ k2 k3 (I1.hok.fresh (Nat.le_refl _))⟩
  rcases hs with hs | hs
  · obtain ⟨its, rv, pl, hz⟩ := I.list hs
    obtain ⟨o, ho, hc, n, hd⟩ := pl.isList
    exact main "list" o its n (.inl rfl) ho hc hd rv hz
  · obtain ⟨its, rv, pl, hz⟩ := I.tuple hs
    obtain ⟨o, ho, hc, n, hd⟩ := pl
    exact main "tuple" o its n (.inr rfl) ho hc hd rv hz
def sortAF : F1 := fun ds => match ds with
  | [.list a] => (intsO a).map fun ns => .list ((sortI ns).map PyData.int)
  | [.tuple a] => (intsO a).map fun ns => .list ((sortI ns).map PyData.int)
  | _ => none
theorem cn_sortA : CN K (rSortA K) sortAF := ⟨fun fr H S al vs ds hx d e Q q => by
  have fin : ∀ (a : List D) (ns : List Int), intsO a = some ns → d = .list ((sortI ns).map PyData.int) → ∀ p, vs = [.ref p] → (SqL K H p (ns.map V.int) ∨ SqT K H p (ns.map V.int)) → rSortA K vs H Q := by
    intro a ns ei ed p ev hs
    subst ev ed
    refine ⟨p, ns, rfl, hs, fun ms l pm so hl => ?_⟩
    obtain ⟨p2, s2⟩ := sortI_spec ns
    have e3 : ms = sortI ns := perm_sorted_uniq (pm.trans p2.symm) so s2
    rw [e3]
    exact q _ _ (upN hl) (dnNew al hl (intsDv _))
  unfold sortAF at e
  split at e
  · rename_i a
    cases ei : intsO a with
    | none => rw [ei] at e; cases e
    | some ns =>
      rw [ei] at e
      cases e
      obtain ⟨v, rfl, h⟩ := dbA1 hx
      obtain ⟨p, xs, rfl, ep, rp⟩ := h.list
      rw [ints_some ei] at rp
      obtain rfl := dvInts rp
      exact fin a ns ei rfl p rfl (.inl (sqL ep))
  · rename_i a
    cases ei : intsO a with
    | none => rw [ei] at e; cases e
    | some ns =>
      rw [ei] at e
      cases e
      obtain ⟨v, rfl, h⟩ := dbA1 hx
      obtain ⟨p, xs, rfl, ep, rp⟩ := h.tuple
      rw [ints_some ei] at rp
      obtain rfl := dvInts rp
      exact fin a ns ei rfl p rfl (.inr ep.sq)
  · cases e⟩
theorem sortAF_l (ns : List Int) : sortAF [.list (ns.map PyData.int)] = some (.list ((sortI ns).map PyData.int)) := by
  simp [sortAF, intsO_map]
theorem sortAF_t (ns : List Int) : sortAF [.tuple (ns.map PyData.int)] = some (.list ((sortI ns).map PyData.int)) := by
  simp [sortAF, intsO_map]
/-! ### t.count(k), xs.count(k) of whole numbers -/
def rCntT (K : PySem.W.Frag) : V → List V → Hp → VK → Prop := fun x xs H Q => ∃ (p : Addr) (ns : List Int) (k : Int), x = .ref p ∧ xs = [.int k] ∧ SqT K H p (ns.map V.int) ∧ Q (.int (ns.count k : Nat)) H
end FL

noncomputable section
namespace FL
open PySem PySem.Spec PyProof.Rows L2 EP
variable {K : PySem.W.Frag}
/-! least and greatest of a list of whole numbers -/
def leastI : Int → List Int → Int
  | m, [] => m
  | m, n :: r => leastI (if n < m then n else m) r
theorem leastI_spec : ∀ (r : List Int) (m : Int), (leastI m r = m ∨ leastI m r ∈ r) ∧ leastI m r ≤ m ∧ ∀ y ∈ r, leastI m r ≤ y
  | [], m => ⟨.inl rfl, Int.le_refl _, fun y hy => by cases hy⟩
  | n :: r, m => by
    have ih := leastI_spec r (if n < m then n else m)
    obtain ⟨a, b, c⟩ := ih
    have e : leastI m (n :: r) = leastI (if n < m then n else m) r := rfl
    rw [e]
    generalize leastI (if n < m then n else m) r = k at *
    refine ⟨?_, ?_, fun y hy => ?_⟩
    · rcases a with a | a
      · by_cases h : n < m
        · rw [if_pos h] at a; rw [a]; exact .inr List.mem_cons_self
        · rw [if_neg h] at a; exact .inl a
      · exact .inr (List.mem_cons_of_mem _ a)
    · by_cases h : n < m
      · rw [if_pos h] at b; omega
      · rw [if_neg h] at b; omega
    · rcases List.mem_cons.mp hy with rfl | hy
      · by_cases h : y < m
        · rw [if_pos h] at b; exact b
        · rw [if_neg h] at b; omega
      · exact c y hy
def minLF : F1 := fun ds => match ds with
  | [.list a] => (intsO a).bind fun ns => match ns with
    | [] => none
    | n :: r => some (.int (leastI n r))
  | _ => none
theorem cf_minL : CF K (rMin K) minLF := ⟨fun fr H S al vs ds hx d e Q q => by
  unfold minLF at e
  split at e
  · rename_i a
    cases ei : intsO a with
    | none => rw [ei] at e; cases e
    | some ns =>
      rw [ei] at e
      cases ns with
      | nil => cases e
      | cons n r =>
        cases e
        obtain ⟨v, rfl, h⟩ := dbA1 hx
        obtain ⟨p, xs, rfl, ep, rp⟩ := h.list
        rw [ints_some ei] at rp
        obtain rfl := dvInts rp
        obtain ⟨s1, s2, s3⟩ := leastI_spec r n
        refine ⟨p, n :: r, rfl, sqL ep, Nat.succ_pos _, fun m hm hl => ?_⟩
        have e1 : m = leastI n r := by
          have a1 := hl (leastI n r) (by rcases s1 with z | z; · rw [z]; exact List.mem_cons_self
                                         · exact List.mem_cons_of_mem _ z)
          have a2 : leastI n r ≤ m := by
            rcases List.mem_cons.mp hm with z | z
            · rw [z]; exact s2
            · exact s3 m z
          omega
        rw [e1]
        exact q _ H (Kp.refl _) (.int _)
  · cases e⟩
end FL

noncomputable section
namespace FL
open PySem PySem.Spec PyProof.Rows L2 EP
/-! ratios in least terms, as data -/
def rat (i u : Int) : D := .tuple [.int (i / (Nat.gcd i.natAbs u.natAbs : Nat)), .int (u / (Nat.gcd i.natAbs u.natAbs : Nat))]
def rN (i u : Int) : Int := i / (Nat.gcd i.natAbs u.natAbs : Nat)
def rU (i u : Int) : Int := u / (Nat.gcd i.natAbs u.natAbs : Nat)
theorem rat_def (i u : Int) : rat i u = .tuple [.int (rN i u), .int (rU i u)] := rfl
theorem gcd_ne {i u : Int} (h : 0 < u) : 0 < Nat.gcd i.natAbs u.natAbs := Nat.gcd_pos_of_pos_right _ (by omega)
theorem rN_mul {i u : Int} : rN i u * (Nat.gcd i.natAbs u.natAbs : Nat) = i := by
  unfold rN
  exact Int.ediv_mul_cancel (Int.ofNat_dvd_left.mpr (Nat.gcd_dvd_left _ _))
theorem rU_mul {i u : Int} : rU i u * (Nat.gcd i.natAbs u.natAbs : Nat) = u := by
  unfold rU
  exact Int.ediv_mul_cancel (Int.ofNat_dvd_left.mpr (Nat.gcd_dvd_right _ _))
theorem rU_pos {i u : Int} (h : 0 < u) : 0 < rU i u := by
  have g := gcd_ne (i := i) h
  have e := rU_mul (i := i) (u := u)
  rcases Int.lt_trichotomy (rU i u) 0 with c | c | c
  · have := Int.mul_neg_of_neg_of_pos c (show (0 : Int) < (Nat.gcd i.natAbs u.natAbs : Nat) by omega)
    omega
  · rw [c, Int.zero_mul] at e; omega
  · exact c
theorem rU_le {i u : Int} (h : 0 < u) : rU i u ≤ u := Int.ediv_le_self _ (by omega)
theorem rN_abs (i u : Int) : (rN i u).natAbs ≤ i.natAbs := Int.natAbs_ediv_le_natAbs _ _
/-- the ratio itself, by crosswise products -/
theorem r_cross {i u : Int} (h : 0 < u) : rN i u * u = i * rU i u := by
  have a := rN_mul (i := i) (u := u)
  have b := rU_mul (i := i) (u := u)
  have e1 : rN i u * u = rN i u * (rU i u * (Nat.gcd i.natAbs u.natAbs : Nat)) := by rw [b]
  have e2 : i * rU i u = rN i u * (Nat.gcd i.natAbs u.natAbs : Nat) * rU i u := by rw [a]
  rw [e1, e2, Int.mul_assoc, Int.mul_comm (rU i u)]
theorem r_coprime {i u : Int} (h : 0 < u) : Nat.gcd (rN i u).natAbs (rU i u).natAbs = 1 := by
  have g := gcd_ne (i := i) h
  have a := rN_mul (i := i) (u := u)
  have b := rU_mul (i := i) (u := u)
  have a2 : (rN i u).natAbs * Nat.gcd i.natAbs u.natAbs = i.natAbs := by
    have := congrArg Int.natAbs a
    rw [Int.natAbs_mul, Int.natAbs_natCast] at this
    exact this
  have b2 : (rU i u).natAbs * Nat.gcd i.natAbs u.natAbs = u.natAbs := by
    have := congrArg Int.natAbs b
    rw [Int.natAbs_mul, Int.natAbs_natCast] at this
    exact this
  have e : Nat.gcd ((rN i u).natAbs * Nat.gcd i.natAbs u.natAbs) ((rU i u).natAbs * Nat.gcd i.natAbs u.natAbs) = Nat.gcd i.natAbs u.natAbs := by rw [a2, b2]
  rw [Nat.gcd_mul_right] at e
  exact Nat.eq_of_mul_eq_mul_right g (by rw [e, Nat.one_mul])
/-- one ratio has one pair in least terms -/
theorem least_one {a u b v : Int} (hu : 0 < u) (hv : 0 < v) (ca : Nat.gcd a.natAbs u.natAbs = 1) (cb : Nat.gcd b.natAbs v.natAbs = 1) (e : a * v = b * u) : a = b ∧ u = v := by
  have n : a.natAbs * v.natAbs = b.natAbs * u.natAbs := by rw [← Int.natAbs_mul, ← Int.natAbs_mul, e]
  have d1 : u.natAbs ∣ v.natAbs := by
    have : u.natAbs ∣ a.natAbs * v.natAbs := ⟨b.natAbs, by rw [n, Nat.mul_comm]⟩
    exact Nat.Coprime.dvd_of_dvd_mul_left (Nat.Coprime.symm ca) this
  have d2 : v.natAbs ∣ u.natAbs := by
    have : v.natAbs ∣ b.natAbs * u.natAbs := ⟨a.natAbs, by rw [← n, Nat.mul_comm]⟩
    exact Nat.Coprime.dvd_of_dvd_mul_left (Nat.Coprime.symm cb) this
  have z : u.natAbs = v.natAbs := Nat.dvd_antisymm d1 d2
  have uv : u = v := by omega
  subst uv
  exact ⟨Int.eq_of_mul_eq_mul_right (by omega) e, rfl⟩
theorem rat_eq {i u k v : Int} (hu : 0 < u) (hv : 0 < v) (e : i * v = k * u) : rat i u = rat k v := by
  have c1 := r_cross (i := i) hu
  have c2 := r_cross (i := k) hv
  have p1 := rU_pos (i := i) hu
  have p2 := rU_pos (i := k) hv
  have x : rN i u * rU k v = rN k v * rU i u := by
    have h1 : rN i u * rU k v * (u * v) = rN k v * rU i u * (u * v) := by
      calc rN i u * rU k v * (u * v) = (rN i u * u) * (rU k v * v) := by ac_rfl
        _ = (i * rU i u) * (rU k v * v) := by rw [c1]
        _ = (i * v) * (rU i u * rU k v) := by ac_rfl
        _ = (k * u) * (rU i u * rU k v) := by rw [e]
        _ = (k * rU k v) * (rU i u * u) := by ac_rfl
        _ = (rN k v * v) * (rU i u * u) := by rw [c2]
        _ = rN k v * rU i u * (u * v) := by ac_rfl
    exact Int.eq_of_mul_eq_mul_right (Int.ne_of_gt (Int.mul_pos hu hv)) h1
  obtain ⟨a, b⟩ := least_one p1 p2 (r_coprime hu) (r_coprime hv) x
  rw [rat_def, rat_def, a, b]
theorem rat_again {i u : Int} (h : 0 < u) : rat (rN i u) (rU i u) = rat i u := rat_eq (rU_pos h) h (r_cross h)
/-- sums of ratios, from their least terms -/
theorem rat_plus {a u b v : Int} (hu : 0 < u) (hv : 0 < v) : rat (rN a u * rU b v + rN b v * rU a u) (rU a u * rU b v) = rat (a * v + b * u) (u * v) := by
  have c1 := r_cross (i := a) hu
  have c2 := r_cross (i := b) hv
  refine rat_eq (Int.mul_pos (rU_pos hu) (rU_pos hv)) (Int.mul_pos hu hv) ?_
  rw [Int.add_mul, Int.add_mul]
  have e1 : rN a u * rU b v * (u * v) = a * v * (rU a u * rU b v) := by
    calc rN a u * rU b v * (u * v) = (rN a u * u) * (rU b v * v) := by ac_rfl
      _ = _ := by rw [c1]; ac_rfl
  have e2 : rN b v * rU a u * (u * v) = b * u * (rU a u * rU b v) := by
    calc rN b v * rU a u * (u * v) = (rN b v * v) * (rU a u * u) := by ac_rfl
      _ = _ := by rw [c2]; ac_rfl
  rw [e1, e2]
/-- a ratio taken so often -/
theorem rat_often {a u c : Int} (hu : 0 < u) : rat (rN a u * c) (rU a u) = rat (a * c) u := by
  refine rat_eq (rU_pos hu) hu ?_
  have c1 := r_cross (i := a) hu
  calc rN a u * c * u = (rN a u * u) * c := by ac_rfl
    _ = _ := by rw [c1]; ac_rfl
theorem rN_le {a u : Int} (hu : 0 < u) : 0 ≤ rN a u ↔ 0 ≤ a := by
  have g := gcd_ne (i := a) hu
  have e := rN_mul (i := a) (u := u)
  generalize (Nat.gcd a.natAbs u.natAbs) = G at *
  constructor
  · intro h
    rw [← e]
    exact Int.mul_nonneg h (by omega)
  · intro h
    rcases Int.lt_or_le (rN a u) 0 with c | c
    · have := Int.mul_neg_of_neg_of_pos c (show (0 : Int) < G by omega)
      omega
    · exact c
theorem rN_lt {a u : Int} (hu : 0 < u) : 0 < rN a u ↔ 0 < a := by
  have g := gcd_ne (i := a) hu
  have e := rN_mul (i := a) (u := u)
  generalize (Nat.gcd a.natAbs u.natAbs) = G at *
  constructor
  · intro h
    rw [← e]
    exact Int.mul_pos h (by omega)
  · intro h
    rcases Int.lt_or_le 0 (rN a u) with c | c
    · exact c
    · have := Int.mul_nonneg (show 0 ≤ -(rN a u) by omega) (show (0 : Int) ≤ G by omega)
      rw [Int.neg_mul] at this
      omega
end FL

noncomputable section
namespace FL
open PySem PySem.Spec PyProof.Rows L2 EP
open PSr (sm sm_succ)
/-! divisors, by the root -/
def st (n r b : Nat) : Nat := if (r + b) * (r + b) ≤ n then r + b else r
def sq (n : Nat) : Nat := st n (st n (st n (st n (st n (st n 0 32) 16) 8) 4) 2) 1
def low (n : Nat) : List Nat := ((List.range (sq n)).map (· + 1)).filter fun d => n % d == 0
def high (n : Nat) : List Nat := (((low n).reverse).filter fun d => d * d != n).map (n / ·)
def divs (n : Nat) : List Nat := low n ++ high n
def chk1 : Bool := (List.range 2881).all fun n => Nat.ble (sq n * sq n) n && Nat.blt n ((sq n + 1) * (sq n + 1))
theorem chk1_ok : chk1 = true := by decide +kernel
theorem sq_isqrt {n : Nat} (h : n ≤ 2880) : Float64.isqrt n = sq n := by
  obtain ⟨a, b⟩ := Float64.isqrt_spec n
  have c := List.all_eq_true.mp chk1_ok n (List.mem_range.mpr (by omega))
  rw [Bool.and_eq_true, Nat.ble_eq, Nat.blt_eq] at c
  obtain ⟨c, d⟩ := c
  generalize Float64.isqrt n = r at *
  generalize sq n = s at *
  rcases Nat.lt_trichotomy r s with l | l | l
  · have := Nat.mul_le_mul (show r + 1 ≤ s by omega) (show r + 1 ≤ s by omega); omega
  · exact l
  · have := Nat.mul_le_mul (show s + 1 ≤ r by omega) (show s + 1 ≤ r by omega); omega
/-! lists of counts as data -/
def nl (L : List Nat) : List D := L.map fun d => .int (d : Nat)
theorem nl_length (L : List Nat) : (nl L).length = L.length := by simp [nl]
theorem lc_nl {tg : Gx} {tt : FL.Tx} {el : Ex} {ρw : En} {π : Pot} {p : Nat → Bool} {f : Nat → Int} : ∀ L : List Nat, (∀ x ∈ L, ∃ ρ2, tg (.int (x : Nat)) ρw = some ρ2 ∧ tt ρ2 π = some (p x, π) ∧ (p x = true → el ρ2 π = some (.int (f x), π))) → lcGo tg tt el ρw (nl L) π = some ((L.filter p).map fun x => .int (f x), π)
  | [], _ => rfl
  | x :: L, h => by
    have ih := lc_nl (p := p) (f := f) L fun y hy => h y (List.mem_cons_of_mem _ hy)
    obtain ⟨ρ2, e1, e2, e3⟩ := h x List.mem_cons_self
    show lcGo tg tt el ρw (.int (x : Nat) :: nl L) π = _
    unfold lcGo
    rw [e1]
    simp only [Option.bind_some]
    rw [e2]
    simp only [Option.bind_some]
    cases hp : p x with
    | true =>
      rw [List.filter_cons_of_pos hp]
      simp only [if_true]
      rw [e3 hp]
      simp only [Option.bind_some]
      rw [ih]
      rfl
    | false =>
      rw [List.filter_cons_of_neg (by simp [hp])]
      simp [ih, -lcGo]
theorem rg_nl (s : Nat) : rg 1 s = nl ((List.range s).map (· + 1)) := by
  unfold nl
  rw [List.map_map]
  show (List.range s).map (fun k => PyData.int (1 + (k : Nat))) = _
  refine List.map_congr_left fun i _ => ?_
  show PyData.int (1 + (i : Int)) = .int ((i + 1 : Nat) : Int)
  congr 1; omega
theorem low_mem {n d : Nat} (h : d ∈ low n) (n0 : 1 ≤ n) : 1 ≤ d ∧ d ≤ n ∧ n % d = 0 := by
  unfold low at h
  rw [List.mem_filter] at h
  obtain ⟨h1, h2⟩ := h
  have h2 : n % d = 0 := eq_of_beq h2
  obtain ⟨i, _, rfl⟩ := List.mem_map.mp h1
  exact ⟨by omega, Nat.le_of_dvd n0 (Nat.dvd_of_mod_eq_zero h2), h2⟩
theorem divs_mem {n d : Nat} (h : d ∈ divs n) (n0 : 1 ≤ n) : 1 ≤ d ∧ d ≤ n := by
  rcases List.mem_append.mp h with h | h
  · have := low_mem h n0; omega
  · obtain ⟨x, hx, rfl⟩ := List.mem_map.mp h
    have hx := (List.mem_filter.mp hx).1
    have := low_mem (List.mem_reverse.mp hx) n0
    exact ⟨(Nat.le_div_iff_mul_le (by omega)).mpr (by omega), Nat.div_le_self _ _⟩
theorem low_length (n : Nat) : (low n).length ≤ sq n := by
  unfold low
  refine Nat.le_trans (List.length_filter_le _ _) ?_
  simp
theorem sq_le (n : Nat) : sq n ≤ 63 := by
  have s : ∀ n r b, st n r b ≤ r + b := fun n r b => by unfold st; split <;> omega
  unfold sq
  have a := s n 0 32
  generalize st n 0 32 = x at *
  have b := s n x 16
  generalize st n x 16 = y at *
  have c := s n y 8
  generalize st n y 8 = z at *
  have d := s n z 4
  generalize st n z 4 = u at *
  have e := s n u 2
  generalize st n u 2 = v at *
  have f := s n v 1
  omega
theorem high_length (n : Nat) : (high n).length ≤ sq n := by
  unfold high
  rw [List.length_map]
  refine Nat.le_trans (List.length_filter_le _ _) ?_
  rw [List.length_reverse]
  exact low_length n
theorem modN {n x : Nat} (h : 0 < x) (h2 : x < 1000000) : modF (.int n) (.int x) = some (.int ((n % x : Nat) : Int)) := by
  rw [modF_of (divOk_of (by omega) (by omega)) (by omega)]; rfl
theorem divN {n x : Nat} (h : 0 < x) (h2 : x < 1000000) : fdivF (.int n) (.int x) = some (.int ((n / x : Nat) : Int)) := by
  rw [fdivF_of (divOk_of (by omega) (by omega)) (by omega)]; rfl
theorem eqN (n m : Nat) : eqF false (.int n) (.int m) = some (.bool (n == m)) := by
  rw [eqF_int]
  by_cases c : n = m
  · simp [c]
  · have : ¬ (n : Int) = m := by omega
    simp [c, this]
theorem powOk_of {i : Int} {e : Int} (h : i.natAbs < 2 ^ 64) (e0 : 0 ≤ e) (e1 : e ≤ 1000) : powOk i e = true := by
  refine cdec_of ⟨e0, ?_⟩
  have l := log2Lt (show 0 < 64 by decide) h
  have : Builtin.Int.intBits i ≤ 64 := by
    unfold Builtin.Int.intBits
    split <;> omega
  have : (Builtin.Int.intBits i : Int) * e ≤ 64 * 1000 := Int.mul_le_mul (by omega) e1 e0 (by decide)
  omega
theorem intsO_nl (f : Nat → Int) : ∀ L : List Nat, intsO (L.map fun x => .int (f x)) = some (L.map f)
  | [] => rfl
  | x :: L => by
    show (intsO (L.map fun x => .int (f x))).map _ = _
    rw [intsO_nl f L]; rfl
theorem divs_length (n : Nat) : (divs n).length ≤ 126 := by
  have := low_length n; have := high_length n; have := sq_le n
  unfold divs
  rw [List.length_append]; omega
theorem cut3 (x y z : D) : FL.cutD [x, y, z] (some 1) none = [y, z] := by simp [FL.cutD]
theorem lc_rowI {tg : Gx} {tt : FL.Tx} {el : Ex} {ρw : En} {π : Pot} (f : Nat → Int) (k : Nat → D) : ∀ L : List Nat, (∀ x ∈ L, ∃ ρ2, tg (.int (f x)) ρw = some ρ2 ∧ tt ρ2 π = some (true, π) ∧ el ρ2 π = some (k x, π)) → lcGo tg tt el ρw (L.map fun x => .int (f x)) π = some (L.map k, π)
  | [], _ => rfl
  | x :: L, h => by
    have ih := lc_rowI f k L fun y hy => h y (List.mem_cons_of_mem _ hy)
    obtain ⟨ρ2, e1, e2, e3⟩ := h x List.mem_cons_self
    show lcGo tg tt el ρw (.int (f x) :: L.map fun x => .int (f x)) π = _
    unfold lcGo
    rw [e1]
    simp only [Option.bind_some]
    rw [e2]
    simp only [Option.bind_some, if_true]
    rw [e3]
    simp only [Option.bind_some]
    rw [ih]
    rfl
theorem eqS (neg : Bool) (a b : Str) : eqF neg (.str a) (.str b) = some (.bool (if neg then !decide (a = b) else decide (a = b))) := rfl
theorem eqF_self (neg : Bool) {d : D} (h : SeqAt.shaped d = true) : eqF neg d d = some (.bool (!neg)) := by
  have r : PyData.eqv d d = true := SeqAt.eqv_refl d (by
    unfold SeqAt.shaped at h
    rw [Bool.and_eq_true] at h
    exact h.1)
  unfold eqF
  split
  · cases neg <;> simp_all
  · rw [if_pos ⟨h, h⟩, r]
    cases neg <;> rfl
end FL

noncomputable section
namespace FL
open PySem PySem.Spec PyProof.Rows L2 EP
variable {K : PySem.W.Frag}
/-! ### dict(list of pairs of a key and a whole number), as a dict of the def's own -/
def mI (l : List (Key × Int)) : List (Key × Int) := l.foldl (fun acc kv => putG acc kv.1 kv.2) []
def kvI (m : List (Key × Int)) : List (Key × D) := m.map fun kv => (kv.1, .int kv.2)
def kvV (m : List (Key × Int)) : List (Key × V) := m.map fun kv => (kv.1, V.int kv.2)
theorem kv_fst (m : List (Key × Int)) : (kvV m).map (·.1) = (kvI m).map (·.1) := by
  unfold kvV kvI
  rw [List.map_map, List.map_map]
  rfl
theorem kv_snd {H : Hp} {S : Addr → Prop} (m : List (Key × Int)) : DvA K H S ((kvV m).map (·.2)) ((kvI m).map (·.2)) := by
  have e1 : (kvV m).map (·.2) = (m.map (·.2)).map V.int := by unfold kvV; rw [List.map_map, List.map_map]; rfl
  have e2 : (kvI m).map (·.2) = (m.map (·.2)).map PyData.int := by unfold kvI; rw [List.map_map, List.map_map]; rfl
  rw [e1, e2]
  exact intsDv _
def prI : List D → Option (List (Key × Int))
  | [] => some []
  | d :: r => match d with
    | .tuple [k, .int v] => (keyD k).bind fun key => (prI r).map fun l => (key, v) :: l
    | _ => none
theorem putK_kvV (acc : List (Key × Int)) (k : Key) (v : Int) : L2.putK (kvV acc) k (V.int v) = kvV (putG acc k v) := by
  unfold L2.putK putG
  have a : ((kvV acc).any fun kv => decide (kv.1 = k)) = (acc.any fun kv => decide (kv.1 = k)) := by
    unfold kvV
    rw [List.any_map]
    rfl
  rw [a]
  split
  · unfold kvV
    rw [List.map_map, List.map_map]
    refine List.map_congr_left fun kv _ => ?_
    show (if kv.1 = k then (kv.1, V.int v) else (kv.1, V.int kv.2)) = ((if kv.1 = k then (kv.1, v) else kv).1, V.int (if kv.1 = k then (kv.1, v) else kv).2)
    split <;> rfl
  · unfold kvV
    rw [List.map_append]; rfl
theorem merge_kvV (l : List (Key × Int)) : L2.mergeK [] (kvV l) = kvV (mI l) := by
  have : ∀ (l acc : List (Key × Int)), L2.mergeK (kvV acc) (kvV l) = kvV (l.foldl (fun acc kv => putG acc kv.1 kv.2) acc) := by
    intro l
    induction l with
    | nil => intro acc; rfl
    | cons kv l ih =>
      intro acc
      show L2.mergeK (L2.putK (kvV acc) kv.1 (V.int kv.2)) (kvV l) = _
      rw [putK_kvV, ih]
      rfl
  exact this l []
theorem pairs_rel {H : Hp} {S : Addr → Prop} : ∀ {ds : List D} {xs : List V} {l : List (Key × Int)}, DvA K H S xs ds → prI ds = some l → ∃ ps : List Addr, xs = ps.map V.ref ∧ Paired (fun p kv => SqT K H p [kV kv.1, kv.2]) ps (kvV l)
  | [], _, l, h, e => by
    cases h
    cases e
    exact ⟨[], rfl, .nil⟩
  | d :: ds, _, l, h, e => by
    cases h with
    | cons a b =>
      unfold prI at e
      split at e
      · rename_i k v
        obtain ⟨key, ek, e⟩ := Option.bind_eq_some_iff.mp e
        obtain ⟨l', el, e⟩ := Option.map_eq_some_iff.mp e
        subst e
        obtain ⟨ps, e1, e2⟩ := pairs_rel b el
        cases a with
        | tup st da =>
          rename_i a0 xs0
          cases da with
          | cons q1 q2 =>
            cases q2 with
            | cons q3 q4 =>
              cases q4
              cases q3
              have kv := keyD_some (fr := ⟨S, none⟩) ek (.inl q1)
              subst kv
              exact ⟨a0 :: ps, by rw [List.map_cons, e1], .cons st.sq e2⟩
      · cases e
def rDictP (K : PySem.W.Frag) : List V → Hp → VK → Prop := fun xs H Q => ∃ (a : Addr) (ps : List Addr) (kvs : List (Key × V)), xs = [.ref a] ∧ SqL K H a (ps.map V.ref) ∧ Paired (fun p kv => SqT K H p [kV kv.1, kv.2]) ps kvs ∧
    ∀ p, H p = none → Q (.ref p) (upd H p (.dK (L2.mergeK [] kvs)))
theorem cr_dictP {X : Cx} (hc : X.calm = true) : CallR X (.type "dict") (rDictP X.K) := call_dictP hc
theorem Rel.setDctI {fr : Fm} {σ : L2.St} {H H' : Hp} {ρ : En} {π π' : Pot} (R : Rel K fr σ H ρ π) (R' : Rel K fr σ H' ρ π') (c : ChgP fr H H') {i : Nat} {p : Addr} (m : List (Key × Int))
    (h0 : H p = none) (h1 : H' p = some (.dK (kvV m)))
    (hscr : ∀ (j : Nat) (ns : List Int) (a : Addr), ρ[j]? = some (.scr ns) → σ[j]? = some (some (.ref a)) → a ≠ p) :
    Rel K fr (σ.set i (some (.ref p))) H' (ρ.set i (.dct (kvI m))) π' ∧ Step (wd fr σ ρ H) (wd fr (σ.set i (some (.ref p))) (ρ.set i (.dct (kvI m))) H') := by
  have ow : ∀ a, IsOwn (σ.set i (some (.ref p))) (ρ.set i (.dct (kvI m))) a → IsOwn σ ρ a ∨ a = p := by
    rintro a ⟨j, s, e, o, q⟩
    by_cases z : i = j
    · subst z
      rw [List.getElem?_set_self'] at q
      cases y : σ[i]? with
      | none => rw [y] at q; cases q
      | some w =>
        rw [y] at q
        have q2 : some (V.ref p) = some (V.ref a) := Option.some.inj q
        cases q2
        exact .inr rfl
    · rw [List.getElem?_set_ne z] at e q
      exact .inl ⟨j, s, e, o, q⟩
  have nown : ¬ IsOwn σ ρ p := fun z => R.ownSome z h0
  have st : Step (wd fr σ ρ H) (wd fr (σ.set i (some (.ref p))) (ρ.set i (.dct (kvI m))) H') := by
    refine ⟨fun b o n z => c b o (fun y => n (.inl y)) z, fun a z => ?_, fun a z => ?_⟩
    · rcases z with z | z
      · exact .inl (.inl z)
      · rcases ow a z with z | z
        · exact .inl (.inr z)
        · exact .inr (by rw [z]; exact h0)
    · rcases z with z | z
      · exact .inl (.inl z)
      · rcases ow a z with z | z
        · exact .inl (.inr z)
        · exact .inr (by rw [z]; exact h0)
  refine ⟨⟨by simp [R.len], fun j s e => ?_, fun j k s t a e1 e2 o1 o2 q1 q2 => ?_, R'.all, fun a h => ?_, fun a h => ?_⟩, st⟩
  · by_cases z : i = j
    · subst z
      have l : i < ρ.length := by
        have := (List.getElem?_eq_some_iff.mp e).1
        simpa using this
      rw [List.getElem?_set_self l] at e
      cases e
      exact ⟨p, kvV m, by rw [List.getElem?_set_self (by rw [R.len]; exact l)], h1, kv_fst m, kv_snd m⟩
    · rw [List.getElem?_set_ne z] at e ⊢
      have sl := R.slot j s e
      have nu : ∀ a, (wd fr (σ.set i (some (.ref p))) (ρ.set i (.dct (kvI m))) H').U a → (wd fr σ ρ H).U a ∨ a = p := fun a z => by
        rcases z with z | z
        · exact .inl (.inl z)
        · exact (ow a z).imp .inr id
      cases s with
      | un => trivial
      | dat d => obtain ⟨v, e, q⟩ := sl; exact ⟨v, e, q.step R.us st⟩
      | arg es =>
        obtain ⟨a, ys, e, q, n, r⟩ := sl
        refine ⟨a, ys, e, st.keep _ _ n q, fun z => ?_, r.step R.us st⟩
        rcases nu a z with z | z
        · exact n z
        · rw [z] at q
          have q : H p = _ := q
          rw [h0] at q; cases q
      | own es =>
        obtain ⟨a, ys, e3, q, r⟩ := sl
        have np : fr.pt ≠ some a := fun z => (R.pt a z).2.1 ⟨j, _, e, rfl, e3⟩
        exact ⟨a, ys, e3, c _ _ np q, r.step R.us st⟩
      | dct kvs =>
        obtain ⟨a, ys, e3, q, m, r⟩ := sl
        have np : fr.pt ≠ some a := fun z => (R.pt a z).2.1 ⟨j, _, e, rfl, e3⟩
        exact ⟨a, ys, e3, c _ _ np q, m, r.step R.us st⟩
      | pot => exact sl
      | scr ns =>
        obtain ⟨a, e3, q, n⟩ := sl
        refine ⟨a, e3, ?_, fun z => ?_⟩
        · rcases q with (q | ⟨u, q⟩) | q
          · exact .inl (.inl (st.keep _ _ n q))
          · exact .inl (.inr ⟨u, st.keep _ _ n q⟩)
          · exact .inr q
        · rcases nu a z with z | z
          · exact n z
          · exact hscr j ns a e e3 z
  · by_cases d1 : i = j
    · by_cases d2 : i = k
      · rw [← d1, ← d2]
      · exfalso
        subst d1
        rw [List.getElem?_set_self'] at q1
        rw [List.getElem?_set_ne d2] at e2 q2
        cases y : σ[i]? with
        | none => rw [y] at q1; cases q1
        | some w =>
          rw [y] at q1
          have q3 : some (V.ref p) = some (V.ref a) := Option.some.inj q1
          cases q3
          exact nown ⟨k, t, e2, o2, q2⟩
    · by_cases d2 : i = k
      · exfalso
        subst d2
        rw [List.getElem?_set_self'] at q2
        rw [List.getElem?_set_ne d1] at e1 q1
        cases y : σ[i]? with
        | none => rw [y] at q2; cases q2
        | some w =>
          rw [y] at q2
          have q3 : some (V.ref p) = some (V.ref a) := Option.some.inj q2
          cases q3
          exact nown ⟨j, s, e1, o1, q1⟩
      · rw [List.getElem?_set_ne d1] at e1 q1
        rw [List.getElem?_set_ne d2] at e2 q2
        exact R.nd j k s t a e1 e2 o1 o2 q1 q2
  · obtain ⟨p1, p2, p3⟩ := R'.pt a h
    refine ⟨p1, fun z => ?_, p3⟩
    rcases ow a z with z | z
    · exact p2 z
    · rw [z] at p1
      exact R.all p p1 h0
  · rcases ow a h with z | z
    · exact R.os a z
    · rw [z]; exact fun y => R.all p y h0

@[simp] def sDL (i : Nat) (f : Ex) : Sx := fun ρ π => (f ρ π).bind fun y => match y.1 with
  | .list ds => (prI ds).bind fun l => if hasScr ρ = true then none else some (ρ.set i (.dct (kvI (mI l))), y.2, .nx)
  | _ => none
theorem sf_dlist {nw : Bool} {i : Nat} {te : TE} {f : Ex} (h : EF K te f) : SF K nw (tAsg (tCB (rDictP K) (tCons te tNil)) (gName i)) (sDL i f) := by
  refine ⟨fun fr σ H ρ π R ρ' π' o e D q => ?_⟩
  unfold sDL at e
  obtain ⟨y, ef, e⟩ := Option.bind_eq_some_iff.mp e
  split at e
  · rename_i ds hy
    obtain ⟨l, el, e⟩ := Option.bind_eq_some_iff.mp e
    split at e
    · cases e
    · rename_i hs
      have hs : hasScr ρ = false := by simpa using hs
      cases e
      refine h.go fr σ H ρ π R y.1 y.2 ef _ fun v H1 R1 c b => ?_
      rw [hy] at b
      cases b with
      | lst e1 n1 r1 =>
        obtain ⟨ps, e2, e3⟩ := pairs_rel r1 el
        subst e2
        refine ⟨_, ps, kvV l, rfl, sqL e1, e3, fun p hp => ?_⟩
        rw [merge_kvV]
        have R2 : Rel K fr σ (upd H1 p (.dK (kvV (mI l)))) ρ y.2 := R1.kp (upN hp)
        obtain ⟨R3, s3⟩ := R1.setDctI R2 (.of (upN hp)) (i := i) (mI l) hp upd_same (fun j ns a e1 _ => (noScr hs e1).elim)
        exact q _ _ R3 (((c.step σ ρ)).trans R.us s3)
  · cases e
/-! ### whether a list has something -/
@[simp] def xTL (f : Ex) : Tx := fun ρ π => (f ρ π).bind fun x => match x.1 with
  | .list ds => some (!ds.isEmpty, x.2)
  | _ => none
theorem DvA.empty {H : Hp} {S : Addr → Prop} {xs : List V} {ds : List D} (h : DvA K H S xs ds) : (!ds.isEmpty) = !xs.isEmpty := by
  cases h <;> rfl
theorem tf_truth {t : TE} {f : Ex} (h : BF K t f) : TF K (fun σ H Q => t σ H fun x H' => ∃ k, TruV K x H' k ∧ Q k H') (xTL f) := by
  refine ⟨fun fr σ H ρ π R d π' e Q q => ?_⟩
  unfold xTL at e
  obtain ⟨x, ea, e⟩ := Option.bind_eq_some_iff.mp e
  split at e
  · rename_i ds hx
    cases e
    refine h.go fr σ H ρ π R x.1 x.2 ea _ fun v H' R' c b => ?_
    rw [hx] at b
    obtain ⟨a, xs, rfl, e1, r1⟩ := b.list
    exact ⟨_, .inl ⟨xs, sqL e1, r1.empty⟩, q H' R' c⟩
  · cases e
/-! ### a, b = x, y where a comprehension reads a or b: a tuple is built and taken apart -/
theorem sf_manyT {nw : Bool} {i j : Nat} {k l : Bool} {t : TA} {a : Ax} (h : MF K [k, l] t a) : SF K nw (tAsg (tTupF t) (gTup K 2 (gCons (gName i) (gCons (gName j) gNil)))) (sMany [i, j] [k, l] a) := by
  refine ⟨fun fr σ H ρ π R ρ' π' o e D q => ?_⟩
  obtain ⟨ds, π1, ρ1, ea, eb, e⟩ := sMany_some e
  cases e
  refine h.fin R ea eb fun vs H' ln R' st => ⟨szOk (by have : vs.length = 2 := ln; omega), fun p ob hp _ => ?_⟩
  match vs, ln with
  | [v, w], _ =>
    refine ⟨p, [v, w], rfl, .inl (.inr ⟨ob, upd_same⟩), rfl, v, [w], rfl, w, [], rfl, rfl, ?_⟩
    exact q _ _ (R'.kp (upN hp)) (st.trans R.us ((ChgP.of (fr := fr) (upN hp)).step _ _))
end FL

noncomputable section
namespace FL
open PySem PySem.Spec PyProof.Rows L2 EP
variable {K : PySem.W.Frag}
/-! greatest of a list of whole numbers -/
def greatI : Int → List Int → Int
  | m, [] => m
  | m, n :: r => greatI (if m < n then n else m) r
theorem greatI_spec : ∀ (r : List Int) (m : Int), (greatI m r = m ∨ greatI m r ∈ r) ∧ m ≤ greatI m r ∧ ∀ y ∈ r, y ≤ greatI m r
  | [], m => ⟨.inl rfl, Int.le_refl _, fun y hy => by cases hy⟩
  | n :: r, m => by
    have ih := greatI_spec r (if m < n then n else m)
    obtain ⟨a, b, c⟩ := ih
    have e : greatI m (n :: r) = greatI (if m < n then n else m) r := rfl
    rw [e]
    generalize greatI (if m < n then n else m) r = k at *
    refine ⟨?_, ?_, fun y hy => ?_⟩
    · rcases a with a | a
      · by_cases h : m < n
        · rw [if_pos h] at a; rw [a]; exact .inr List.mem_cons_self
        · rw [if_neg h] at a; exact .inl a
      · exact .inr (List.mem_cons_of_mem _ a)
    · by_cases h : m < n
      · rw [if_pos h] at b; omega
      · rw [if_neg h] at b; omega
    · rcases List.mem_cons.mp hy with rfl | hy
      · by_cases h : m < y
        · rw [if_pos h] at b; exact b
        · rw [if_neg h] at b; omega
      · exact c y hy
def maxLF : F1 := fun ds => match ds with
  | [.list a] => (intsO a).bind fun ns => match ns with
    | [] => none
    | n :: r => some (.int (greatI n r))
  | _ => none
theorem cf_maxL : CF K (rMax K) maxLF := ⟨fun fr H S al vs ds hx d e Q q => by
  unfold maxLF at e
  split at e
  · rename_i a
    cases ei : intsO a with
    | none => rw [ei] at e; cases e
    | some ns =>
      rw [ei] at e
      cases ns with
      | nil => cases e
      | cons n r =>
        cases e
        obtain ⟨v, rfl, h⟩ := dbA1 hx
        obtain ⟨p, xs, rfl, ep, rp⟩ := h.list
        rw [ints_some ei] at rp
        obtain rfl := dvInts rp
        obtain ⟨s1, s2, s3⟩ := greatI_spec r n
        refine ⟨p, n :: r, rfl, sqL ep, Nat.succ_pos _, fun m hm hl => ?_⟩
        have e1 : m = greatI n r := by
          have a1 := hl (greatI n r) (by rcases s1 with z | z; · rw [z]; exact List.mem_cons_self
                                         · exact List.mem_cons_of_mem _ z)
          have a2 : m ≤ greatI n r := by
            rcases List.mem_cons.mp hm with z | z
            · rw [z]; exact s2
            · exact s3 m z
          omega
        rw [e1]
        exact q _ H (Kp.refl _) (.int _)
  · cases e⟩
end FL

noncomputable section
namespace FL
open PySem PySem.Spec PyProof.Rows L2 EP
variable {K : PySem.W.Frag}
/-! ### sets of whole numbers that a comprehension makes -/
/-- one turn: the item goes into the set at D -/
def ScGo (w : World) (D : Addr) (g : TG) (tt : TT) (te : TE) (σ : L2.St) (vs : List Nat) (J : It) (i : Nat) (H : Hp) (N : Hp → Prop) : Prop :=
  J.go i H ∧ ∀ x H', J.yld i H x H' → g x (wipe σ vs) H' fun σa Ha => wipe σa vs = wipe σ vs ∧ tt σa Ha fun b Hb =>
    if b = true then te σa Hb fun y Hc => ∃ (c : Int) (S : Int → Bool) (n : Nat), y = .int c ∧ Hc D = some (SetO w D S n) ∧ n + 1 < scanBound ∧
      N (upd Hc D (SetO w D (fun j => S j || decide (j = c)) (if S c = true then n else n + 1)))
    else N Hb
/-- {e for g in it if t} of whole numbers -/
def tScI (w : World) (wi : TI) (g : TG) (tt : TT) (te : TE) (vs : List Nat) : TE := fun σ H Q => wi σ H fun J Ha => ∀ D, Ha D = none →
  ∃ W : Nat → Nat → Hp → Prop, (∃ m, W 0 m (upd Ha D (SetO w D (fun _ => false) 0))) ∧
    ∀ i m Hb, W i m Hb → (J.stop i Hb ∧ Q (.ref D) Hb) ∨ ∃ N : Hp → Prop, (∀ Hc, N Hc → ∃ l, l < m ∧ W (i + 1) l Hc) ∧ ScGo w D g tt te σ vs J i Hb N
/-- the new set's object -/
abbrev setO0 (w : World) : Obj := { cls := .type "set", dict := none, data := .set #[] 0 (.fresh 0 0 (!w.params.followText "set-order")) }
section
variable {X : Cx} {elt tg iter : Expr} {ifs : List Expr} {scope : Scope} {own : List (PySem.Str × Nat)} {wi : TI} {g : TG} {tt : TT} {te : TE}
theorem setI_put {pins : List (Addr × Obj)} {σ : L2.St} {H : Hp} {s : Shared} {E : Value → Shared → Prop} {D : Addr} {S : Int → Bool} {n : Nat} {k : Int} {tk : Tok} {Q : Value → Shared → Prop}
    (I : Inv X pins σ H s) (e : H D = some (SetO X.w D S n)) (few : n + 1 < scanBound)
    (q : ∀ s', Inv X pins σ (upd H D (SetO X.w D (fun j => S j || decide (j = k)) (if S k = true then n else n + 1))) s' → Q .none s') :
    wpAny (model X.prog X.w) X.A (call (.builtin "set.add") [.ref D, .int k tk]) Q E s :=
  setR_add (setO_get I e) few fun h2 only made => by
    refine q _ (I.write (e := D) (t' := s.toks + 1) (by rw [e]; trivial) (.inl rfl) (fun b u nb hb => ?_) ?_ (setO_new made))
    · exact (only.2 b nb).trans hb
    · obtain ⟨o, _, _, _, at1, _⟩ := made
      exact ⟨o, at1⟩
theorem pe_scI {pos : Pos} (hc : X.calm = true) (nd : X.N.Nodup) (hi : PI X tg iter wi) (ok : BlkOk X.N X.env.scope scope own)
    (hg : ∀ (s : Shared) (H : Hp) (C : Addr) (cl : List (PySem.Str × Addr)) (fp : List Addr), PG (X.blk s H scope (compEnvC scope cl C X.env) fp) tg g)
    (ht : ∀ (s : Shared) (H : Hp) (C : Addr) (cl : List (PySem.Str × Addr)) (fp : List Addr), PTs (X.blk s H scope (compEnvC scope cl C X.env) fp) ifs tt)
    (he : ∀ (s : Shared) (H : Hp) (C : Addr) (cl : List (PySem.Str × Addr)) (fp : List Addr), PE (X.blk s H scope (compEnvC scope cl C X.env) fp) elt te)
    (hs : ∀ x, foldedSetIterable iter X.env x = pure x := by intro _; rfl) : PE X (.SetComp elt [⟨tg, iter, ifs, 0⟩] scope pos) (tScI X.w wi g tt te (own.map (·.2))) := by
  refine ⟨fun pins s σ H Q I h => ?_⟩
  rw [PpSet.eval_SetComp]
  have fr : ∀ y ∈ scope.names, y.2 = .free → ∃ c, X.env.cells.lookup y.1 = some c := fun y hy z => I.ok.has _ ((ok.free y hy z).imp id id)
  refine wpAny_comprehension_free (use := none) rfl hs (closure_ok fr) ok.kind (fun y hy z => (ok.uniq y hy).trans (by rw [z])) (thn (hi.run pins s σ H _ I h) fun _ _ w1 => thn w1 fun itv sa made => ?_)
  obtain ⟨it, fp, tn, J, Ha, rfl, Ia, T, sta, fpa, q⟩ := made
  refine PpSet.newSet_ok (newEnv_comp ?_)
  obtain ⟨D, eD⟩ : ∃ D, D = sa.heap.objs.size := ⟨_, rfl⟩
  have nD : Ha D = none := Ia.hok.fresh (Nat.le_of_eq eD.symm)
  obtain ⟨W, ⟨m0, w0⟩, turn⟩ := q D nD
  obtain ⟨sb, esb⟩ : ∃ sb : Shared, sb = { sa with heap := sa.heap.push (setO0 X.w) } := ⟨_, rfl⟩
  have hb : sb.heap = sa.heap.push (setO0 X.w) := by rw [esb]
  obtain ⟨Hb, eHb⟩ : ∃ Hb, Hb = upd Ha D (SetO X.w D (fun _ => false) 0) := ⟨_, rfl⟩
  have grow : ∀ b o, sa.heap.get? b = some o → sb.heap.get? b = some o := fun b o z => by rw [hb]; exact Heap.get?_push_of_some _ z
  have Ib : Inv X pins σ Hb sb := by
    rw [esb, eHb]
    refine Ia.laid (t' := sa.toks) (fun b o z => Heap.get?_push_of_some _ z) (Nat.le_of_eq eD.symm) ?_
    rw [eD]
    exact setO_new (setR_fresh X.w)
  have small : ∀ b ∈ fp, b < sa.heap.objs.size := fun b z => (T.obj _ _ sta b z).elim fun _ y => Heap.lt_size y.1
  have fpb : ∀ b ∈ fp, FpOk X pins Hb b ∧ b < sb.heap.objs.size := fun b z => by
    refine ⟨⟨?_, (fpa b z).2⟩, by rw [hb, Heap.size_push]; exact Nat.lt_succ_of_lt (small b z)⟩
    rw [eHb, upd_ne (by rw [eD]; exact Nat.ne_of_lt (small b z))]
    exact (fpa b z).1
  have stb : tn 0 sb.heap := T.keep _ _ _ sta fun b _ o z => grow b o z
  have Ic := block_start Ib ok nd fpb
  obtain ⟨cl, ecl⟩ : ∃ cl, cl = cellsFrom (sb.heap.objs.size + 1) scope.names (cloFrom X.env.cells scope.names []) := ⟨_, rfl⟩
  have pg := hg sb Hb sb.heap.objs.size cl fp
  have pt := ht sb Hb sb.heap.objs.size cl fp
  have pe := he sb Hb sb.heap.objs.size cl fp
  rw [← ecl] at Ic
  rw [← eD, show ({ sa with heap := sa.heap.push (setO0 X.w) } : Shared) = sb from esb.symm]
  show codeAny _ _ (.compStart (.SetComp elt [⟨tg, iter, ifs, 0⟩] scope pos) 0 (.ref it) (.ref D) (compEnvC scope (cellsFrom (sb.heap.objs.size + 1) scope.names (cloFrom X.env.cells scope.names [])) sb.heap.objs.size X.env)) (compPost (model X.prog X.w) X.A X.xe none (EP X pins σ Q) (.ref D) sb.heap.objs.size) { sb with heap := pushCells (sb.heap.push { cls := .type "dict", data := .dict #[] }) scope.names }
  rw [← ecl]
  have nfp : ∀ b ∈ fp, Hb b = none := fun b z => (fpb b z).1.1
  obtain ⟨ce, ece⟩ : ∃ ce, ce = compEnvC scope cl sb.heap.objs.size X.env := ⟨_, rfl⟩
  rw [← ece] at Ic pg pt pe ⊢
  have cL : ce.locals = sb.heap.objs.size := by rw [ece]; rfl
  obtain ⟨sc, esc⟩ : ∃ sc : Shared, sc = { sb with heap := pushCells (sb.heap.push { cls := .type "dict", data := .dict #[] }) scope.names } := ⟨_, rfl⟩
  rw [← esc] at Ic ⊢
  have stc : tn 0 sc.heap := T.keep _ _ _ stb fun b _ o z => by rw [esc]; exact pushCells_keeps _ _ _ _ (Heap.get?_push_of_some _ z)
  have stat : ∀ {σ' : L2.St} {H' : Hp} {s' : Shared}, Inv (X.blk sb Hb scope ce fp) [] σ' H' s' → (∀ b ∈ fp, H' b = none) → ∀ b ∈ fp, FpOk (X.blk sb Hb scope ce fp) [] H' b := fun {σ' H' s'} J' n b z =>
    ⟨n b z, (J'.ok.exf b z).1, J'.ok.exfs b z, .inl z, (fun x c => (J'.ok.exf b z).2 x c), fun p hp => by simp at hp⟩
  have loop : codeAny (model X.prog X.w) X.A (.compLoop (.SetComp elt [⟨tg, iter, ifs, 0⟩] scope pos) 0 (.ref it) (.ref D) ce) (compPost (model X.prog X.w) X.A X.xe none (EP X pins σ Q) (.ref D) sb.heap.objs.size) sc := by
    let KP : Nat → Shared → Prop := fun n s' => ∃ i H', Inv (X.blk sb Hb scope ce fp) [] (wipe σ (own.map (·.2))) H' s' ∧ tn i s'.heap ∧ (∀ b ∈ fp, H' b = none) ∧ W i n H'
    refine PpSet.compLoopS_any KP ?_ m0 ⟨0, Hb, Ic, stc, nfp, by rw [eHb]; exact w0⟩
    rintro n sd ⟨i, Hd, Id, std, nd', wd'⟩
    rcases turn i n Hd wd' with ⟨stop, fin⟩ | ⟨N, hN, go, step⟩
    · refine thnF (T.done (X.blk sb Hb scope ce fp) rfl rfl rfl hc i [] sd _ Hd (fun _ _ => False) Id (stat Id nd') std stop) fun r se ⟨er, Ie⟩ => ?_
      subst er
      have If : Inv X pins σ Hd se := Ib.call' (ch := fp) Ie.os Ie.base Ie.hok Ie.bare fun b z =>
        let y := (fpb b z).1.2
        ⟨y.2.2.1, y.1, y.2.2.2.1, y.2.2.2.2⟩
      have nC : Hd sb.heap.objs.size = none := by rw [← cL]; exact Ie.free
      obtain ⟨m, ns, _⟩ := Ie.loc
      have ns : se.heap.Ns sb.heap.objs.size m := by rw [← cL]; exact ns
      refine ⟨m, ns, fun h3 sbut => ?_⟩
      obtain ⟨f0, f1, _, f3, f4, f5⟩ := Ib.fpOk (Nat.le_refl _) nC
      exact ⟨.ref D, Hd, If.turned (t' := se.toks) (fun b o nb z => (sbut.2 b nb).trans z) f0 f1 f3 f4 f5, rfl, fin⟩
    · refine thnF (T.item (X.blk sb Hb scope ce fp) rfl rfl rfl hc i [] sd _ Hd (fun _ _ => False) Id (stat Id nd') std go) fun r se ⟨u, er, w2⟩ => ?_
      subst er
      refine thnF w2 fun _ sf ⟨x, Hf, If, rf, yf, stf, nf⟩ => ?_
      have Ip := If.pinned (stat If nf) (T.obj _ _ stf)
      refine thnF (pg.run _ sf _ Hf x u _ Ip rf (step x Hf yf)) fun _ sg ⟨σg, Hg, Ig, wg, qg⟩ => ?_
      refine thnF (pt.run _ sg σg Hg _ Ig qg) fun b sh ⟨Hh, Ih, qh⟩ => ?_
      have back : ∀ {s' : Shared} {H' : Hp}, Inv (X.blk sb Hb scope ce fp) ([] ++ pinsAt fp sf.heap) σg H' s' → N H' → ∃ l, l < n ∧ KP l s' := fun {s' H'} J' nx => by
        obtain ⟨l, lt, w3⟩ := hN H' nx
        have pinned : ∀ c ∈ fp, ∀ o, sf.heap.get? c = some o → s'.heap.get? c = some o ∧ H' c = none := fun c z o e =>
          (J'.pin (c, o) (List.mem_append_right _ (List.mem_append_right _ (mem_pinsAt z e)))).imp id And.left
        refine ⟨l, lt, i + 1, H', (J'.unpinned (pins := [])).weak ?_ (fun j v e => ?_), T.keep _ _ _ stf fun c z o e => (pinned c z o e).1, fun c z => ?_, w3⟩
        · rw [← wg, wipe_length]
        · rw [← wg] at e
          exact (wipe_some e).1
        · obtain ⟨o, e, _⟩ := T.obj _ _ stf c z
          exact (pinned c z o e).2
      cases b with
      | true =>
        simp only [if_true] at qh ⊢
        refine thnF (pe.run _ sh σg Hh _ Ih qh) fun z si ⟨yv, Hi, Ii, ri, cv, S, n1, ey, eD2, few, nx⟩ => ?_
        subst ey
        obtain ⟨tk, rfl⟩ := ri
        exact setI_put (X := X.blk sb Hb scope ce fp) Ii eD2 few fun sj Ij => back Ij nx
      | false =>
        simp only [Bool.false_eq_true, if_false] at qh ⊢
        exact back Ih qh
  exact PpSet.codeAny_compStart_set loop (T.self X.A 0 _ _ _ stc loop)
end
end FL

noncomputable section
namespace FL
open PySem PySem.Spec PyProof.Rows L2 EP
variable {K : PySem.W.Frag}
/-! ### rising lists without repeats -/
def insU (k : Int) : List Int → List Int
  | [] => [k]
  | a :: r => if k < a then k :: a :: r else if k = a then a :: r else a :: insU k r
def srtU : List Int → List Int
  | [] => []
  | a :: r => insU a (srtU r)
theorem mem_insU {k j : Int} : ∀ {l : List Int}, j ∈ insU k l ↔ j = k ∨ j ∈ l
  | [] => by simp [insU]
  | a :: r => by
    unfold insU
    split
    · simp
    · split
      · rename_i h; subst h; simp
      · simp [mem_insU (l := r)]; constructor <;> (intro h; rcases h with h | h | h <;> simp [h])
theorem pw_insU {k : Int} : ∀ {l : List Int}, l.Pairwise (· < ·) → (insU k l).Pairwise (· < ·)
  | [], _ => by simp [insU]
  | a :: r, h => by
    rw [List.pairwise_cons] at h
    unfold insU
    split
    · rename_i c
      rw [List.pairwise_cons, List.pairwise_cons]
      refine ⟨fun b hb => ?_, h⟩
      rcases List.mem_cons.mp hb with e | e
      · omega
      · have := h.1 b e; omega
    · split
      · rw [List.pairwise_cons]; exact h
      · rw [List.pairwise_cons]
        refine ⟨fun b hb => ?_, pw_insU h.2⟩
        rcases mem_insU.mp hb with e | e
        · omega
        · exact h.1 b e
theorem len_insU {k : Int} : ∀ {l : List Int}, (insU k l).length ≤ l.length + 1
  | [] => by simp [insU]
  | a :: r => by
    unfold insU
    split
    · simp
    · split
      · simp
      · have := len_insU (k := k) (l := r); simp; omega
theorem mem_srtU {j : Int} : ∀ {l : List Int}, j ∈ srtU l ↔ j ∈ l
  | [] => by simp [srtU]
  | a :: r => by simp [srtU, mem_insU, mem_srtU (l := r)]
theorem pw_srtU : ∀ (l : List Int), (srtU l).Pairwise (· < ·)
  | [] => .nil
  | a :: r => pw_insU (pw_srtU r)
theorem len_srtU : ∀ (l : List Int), (srtU l).length ≤ l.length
  | [] => by simp [srtU]
  | a :: r => by have h1 := len_insU (k := a) (l := srtU r); have h2 := len_srtU r; simp [srtU]; omega
theorem rise_uniq : ∀ {l m : List Int}, l.Pairwise (· < ·) → m.Pairwise (· < ·) → (∀ j, j ∈ l ↔ j ∈ m) → l = m
  | [], [], _, _, _ => rfl
  | [], b :: m, _, _, h => by have := (h b).mpr (by simp); simp at this
  | a :: l, [], _, _, h => by have := (h a).mp (by simp); simp at this
  | a :: l, b :: m, hl, hm, h => by
    rw [List.pairwise_cons] at hl hm
    have e : a = b := by
      have h1 := (h a).mp (by simp)
      have h2 := (h b).mpr (by simp)
      rcases List.mem_cons.mp h1 with x | x
      · exact x
      · rcases List.mem_cons.mp h2 with y | y
        · exact y.symm
        · have := hm.1 a x; have := hl.1 b y; omega
    subst e
    rw [rise_uniq hl.2 hm.2 fun j => ?_]
    constructor
    · intro x
      rcases List.mem_cons.mp ((h j).mp (List.mem_cons_of_mem _ x)) with y | y
      · have := hl.1 j x; omega
      · exact y
    · intro x
      rcases List.mem_cons.mp ((h j).mpr (List.mem_cons_of_mem _ x)) with y | y
      · have := hm.1 j x; omega
      · exact y
theorem srtU_snoc (l : List Int) (i : Int) : srtU (l ++ [i]) = insU i (srtU l) := by
  refine rise_uniq (pw_srtU _) (pw_insU (pw_srtU l)) fun j => ?_
  rw [mem_srtU, mem_insU, mem_srtU]
  simp [or_comm]
theorem insU_in {i : Int} : ∀ {l : List Int}, l.Pairwise (· < ·) → i ∈ l → insU i l = l := fun {l} h m =>
  rise_uniq (pw_insU h) h fun j => by rw [mem_insU]; constructor <;> (intro x; first | (rcases x with x | x; (rw [x]; exact m); exact x) | exact .inr x)
theorem insU_new {i : Int} : ∀ {l : List Int}, i ∉ l → (insU i l).length = l.length + 1
  | [], _ => by simp [insU]
  | a :: r, m => by
    have m1 : i ≠ a := fun e => m (by simp [e])
    have m2 : i ∉ r := fun e => m (List.mem_cons_of_mem _ e)
    unfold insU
    split
    · simp
    · simp [m1, insU_new m2]
/-- sorted({e for .. in .. if ..}) -/
def xSc (it : Ax) (tg : Gx) (tt : Tx) (el : Ex) (vs : List Nat) : Ex := fun ρ π => (xLc it tg tt el vs ρ π).bind fun x => (lstOf x.1).bind fun ds => (intsO ds).bind fun ns =>
  if ns.length ≤ 4000 ∧ (srtU ns).length < 64 then some (.list ((srtU ns).map PyData.int), x.2) else none
theorem xSc_some {it : Ax} {tg : Gx} {tt : Tx} {el : Ex} {vs : List Nat} {ρ : En} {π : Pot} {d : D} {π' : Pot} (e : xSc it tg tt el vs ρ π = some (d, π')) :
    ∃ acc ns, xLc it tg tt el vs ρ π = some (.list acc, π') ∧ intsO acc = some ns ∧ ns.length ≤ 4000 ∧ (srtU ns).length < 64 ∧ d = .list ((srtU ns).map PyData.int) := by
  unfold xSc at e
  obtain ⟨x, e1, e⟩ := Option.bind_eq_some_iff.mp e
  obtain ⟨ds, e2, e⟩ := Option.bind_eq_some_iff.mp e
  obtain ⟨ns, e3, e⟩ := Option.bind_eq_some_iff.mp e
  split at e
  · rename_i c
    cases e
    obtain ⟨d, p⟩ := x
    have := lstOf_some e2
    simp only at this
    subst this
    exact ⟨ds, ns, e1, e3, c.1, c.2, rfl⟩
  · cases e
theorem intsO_cons {d : D} {r : List D} {ns : List Int} (h : intsO (d :: r) = some ns) : ∃ i ms, d = .int i ∧ intsO r = some ms ∧ ns = i :: ms := by
  have h2 := ints_some h
  cases ns with
  | nil => simp at h2
  | cons i ms =>
    simp only [List.map_cons, List.cons.injEq] at h2
    exact ⟨i, ms, h2.1, by rw [h2.2, intsO_map], rfl⟩
theorem nf_sc {w : World} {wk : Bool} {wi : TI} {it : Ax} {g : TG} {tg : Gx} {t : TT} {tt : Tx} {te : TE} {el : Ex} {vs : List Nat} (hi : IF K wk wi it) (hg : GF K wk vs g tg) (ht : TF K t tt) (he : EF K te el) :
    NF K (tCB (rSortedSet w) (tCons (tScI w wi g t te vs) tNil)) (xSc it tg tt el vs) := by
  refine ⟨fun fr σ H ρ π R d π' e Q q => ?_⟩
  obtain ⟨acc, nsA, eL, eA, l4, l64, rfl⟩ := xSc_some e
  obtain ⟨ds, π1, acc2, ei, of, ln, eg, eacc⟩ := xLc_some eL
  cases eacc
  refine hi.go fr σ H ρ π R ds π1 ei _ fun J P H1 R1 c1 ok p1 => ?_
  intro p hp
  have own1 : ∀ a, (wd fr σ ρ H1).S a → a ≠ p := fun a h z => R1.sSome h (by rw [z]; exact hp)
  refine ⟨fun i m H2 => m = ds.length - i ∧ i ≤ ds.length ∧ ∃ (π2 : Pot) (n1 n2 : List Int) (S : Int → Bool) (rest : List D), ChgP fr H1 H2 ∧
      (∀ a, fr.pt = some a → H2 a = some (.lst (π2.map V.int))) ∧
      H2 p = some (SetO w p S (srtU n1).length) ∧ (∀ k, S k = true ↔ k ∈ n1) ∧
      lcGo tg tt el (wipeE ρ vs) (ds.drop i) π2 = some (rest, π') ∧ intsO rest = some n2 ∧ n1 ++ n2 = nsA, ⟨ds.length, by omega, Nat.zero_le _, π1, [], nsA, fun _ => false, acc, .of (upN hp), fun a h => ?_, upd_same, by simp, eg, eA, rfl⟩, ?_⟩
  · exact upN hp _ _ (R1.pt a h).2.2
  rintro i m H2 ⟨rfl, il, π2, n1, n2, S, rest, c2, pf, ep, mS, el2, e2, ea⟩
  obtain ⟨R2, st2⟩ := R1.keep c2 hp (by rw [ep]; intro z; cases z) pf
  have P2 := ok.st _ _ R1.us p1 st2
  by_cases c : i < ds.length
  · right
    obtain ⟨d, ed, edr⟩ := drop_at c
    rw [edr] at el2
    obtain ⟨go, yl⟩ := ok.go i d (wd ⟨fun a => fr.S0 a ∨ a = p, fr.pt⟩ σ ρ H2) R2.sA P2 ed
    refine ⟨fun H3 => ∃ (π3 : Pot) (n1 n2 : List Int) (S : Int → Bool) (rest : List D), ChgP fr H1 H3 ∧
      (∀ a, fr.pt = some a → H3 a = some (.lst (π3.map V.int))) ∧
      H3 p = some (SetO w p S (srtU n1).length) ∧ (∀ k, S k = true ↔ k ∈ n1) ∧
      lcGo tg tt el (wipeE ρ vs) (ds.drop (i + 1)) π3 = some (rest, π') ∧ intsO rest = some n2 ∧ n1 ++ n2 = nsA, fun H3 h3 => ⟨ds.length - (i + 1), by omega, rfl, by omega, h3⟩, go, ?_⟩
    intro x H3 y
    obtain ⟨k3, dx⟩ := yl x H3 y
    have R3 := R2.kp k3
    obtain ⟨Rw, ow⟩ := R3.wiped vs
    unfold lcGo at el2
    cases etg : tg d (wipeE ρ vs) with
    | none => rw [etg] at el2; cases el2
    | some ρ2 =>
      rw [etg] at el2
      simp only [Option.bind_some] at el2
      have dxw : Dx K wk H3 (wd ⟨fun a => fr.S0 a ∨ a = p, fr.pt⟩ (wipe σ vs) (wipeE ρ vs) H3).S x d := dx.weak fun a z => z.imp id (ow a)
      refine hg.go _ (wipe σ vs) H3 (wipeE ρ vs) π2 Rw x d dxw ρ2 etg _ fun σ2 R4 st4 ag4 ow4 => ?_
      refine ⟨wipe_ag ag4, ?_⟩
      have np : fr.pt ≠ some p := fun z => own1 p (.inl (R1.pt p z).1) rfl
      have fin : ∀ (H4 : Hp) (π4 : Pot), ChgP fr H3 H4 → Rel K ⟨fun a => fr.S0 a ∨ a = p, fr.pt⟩ σ2 H4 ρ2 π4 → ChgP fr H1 H4 ∧
          (∀ a, fr.pt = some a → H4 a = some (.lst (π4.map V.int))) ∧ H4 p = some (SetO w p S (srtU n1).length) := by
        intro H4 π4 c4 R5
        have c24 : ChgP fr H2 H4 := (ChgP.of k3).trans c4
        exact ⟨c2.trans c24, fun a h => (R5.pt a h).2.2, c24 _ _ np ep⟩
      cases ett : tt ρ2 π2 with
      | none => rw [ett] at el2; cases el2
      | some b =>
        rw [ett] at el2
        simp only [Option.bind_some] at el2
        refine ht.go _ σ2 H3 ρ2 π2 R4 b.1 b.2 ett _ fun H4 R5 c4 => ?_
        by_cases cb : b.1 = true
        · rw [if_pos cb] at el2 ⊢
          cases eel : el ρ2 b.2 with
          | none => rw [eel] at el2; cases el2
          | some y =>
            rw [eel] at el2
            simp only [Option.bind_some] at el2
            cases elr : lcGo tg tt el (wipeE ρ vs) (ds.drop (i + 1)) y.2 with
            | none => rw [elr] at el2; cases el2
            | some z =>
              rw [elr] at el2
              cases el2
              obtain ⟨iv, ms, ey, ez, rfl⟩ := intsO_cons e2
              refine he.go _ σ2 H4 ρ2 b.2 R5 y.1 y.2 eel _ fun v H5 R6 c5 dv => ?_
              rw [ey] at dv
              cases dv
              obtain ⟨f1, f2, f3⟩ := fin H5 y.2 (c4.trans c5) R6
              have lb : (srtU n1).length + 1 < scanBound := by
                have h1 := len_srtU n1
                have h2 : n1.length ≤ nsA.length := by rw [← ea]; simp
                unfold scanBound
                omega
              refine ⟨iv, S, _, rfl, f3, lb, ?_⟩
              refine ⟨y.2, n1 ++ [iv], ms, fun j => S j || decide (j = iv), z.1, fun b o n w => ?_, fun a h => ?_, ?_, fun k => ?_, elr, ez, by rw [List.append_assoc]; exact ea⟩
              · have : b ≠ p := fun q => by rw [q, hp] at w; cases w
                rw [upd_ne this]
                exact f1 b o n w
              · rw [upd_ne (fun q => np (by rw [← q]; exact h))]; exact f2 a h
              · rw [upd_same, srtU_snoc]
                by_cases cs : S iv = true
                · rw [if_pos cs, insU_in (pw_srtU n1) (mem_srtU.mpr ((mS iv).mp cs))]
                · rw [if_neg cs, insU_new (fun hm => cs ((mS iv).mpr (mem_srtU.mp hm)))]
              · show (S k || decide (k = iv)) = true ↔ _
                rw [Bool.or_eq_true, mS k, decide_eq_true_eq]; simp
        · rw [if_neg cb] at el2 ⊢
          obtain ⟨f1, f2, f3⟩ := fin H4 b.2 c4 R5
          exact ⟨b.2, n1, n2, S, rest, f1, f2, f3, mS, el2, e2, ea⟩
  · left
    have ie : i = ds.length := by omega
    refine ⟨ok.stop i (wd ⟨fun a => fr.S0 a ∨ a = p, fr.pt⟩ σ ρ H2) P2 (by omega), ?_⟩
    rw [ie, List.drop_length] at el2
    unfold lcGo at el2
    cases el2
    cases e2
    rw [List.append_nil] at ea
    subst ea
    have R5 : Rel K fr σ H2 ρ _ := R1.chg c2 pf
    refine ⟨p, S, (srtU n1).length, rfl, ep, l64, fun ns p2 pw mem _ hn => ?_⟩
    have e5 : ns = srtU n1 := rise_uniq pw (pw_srtU n1) fun k => by rw [mem k, mS k, mem_srtU]
    rw [e5]
    exact q _ _ (R5.kp (upN hn)) ((c1.trans c2).trans (.of (upN hn))) ((dnNew R5.sA hn (intsDv _)).back fun a z => R5.back (c1.trans c2) z)
end FL

noncomputable section
namespace FL
open PySem PySem.Spec PyProof.Rows L2 EP
variable {K : PySem.W.Frag}
/-! ### sorted(set(xs)) of whole numbers in a list -/
theorem set_of_list {P : Program} {w : World} {A : Around} {E : Value → Shared → Prop} {s : Shared} {l : Addr} {us : Array Value} {ns : List Int} {Q : Value → Shared → Prop} (quiet : A.handled = none)
    (isl : s.heap.IsList l us) (ia : IntsAre us.toList ns) (few : ns.length + 1 < scanBound)
    (q : ∀ (g : Heap) (tk c : Nat), SetR w g s.heap.objs.size (fun j => decide (j ∈ ns)) c → c ≤ ns.length → (∀ b o, s.heap.get? b = some o → g.get? b = some o) → Q (.ref s.heap.objs.size) { s with heap := g, toks := tk }) :
    wpAny (model P w) A (call (.type "set") [.ref l]) Q E s := by
  have szl : us.size = ns.length := by rw [← IntsAre.length ia, Array.length_toList]
  obtain ⟨c, tl, mro⟩ := PySem.F.called_set.mro
  have made := PySem.F.called_set.made
  have sub := PySem.F.called_set.sub
  refine wpAny_call (codeAny_of_tree ?_)
  show wpAny _ _ (callAny (.type "set") _) _ _ _
  refine wpAny_pure ⟨Code.quiet_builtin _ (by decide +kernel), codeAny_builtin PySem.F.entry_type_call ?_⟩
  rw [Around.under_plain (weight_type_call_type "set" [.ref l] []) rfl]
  have nt := PySem.F.called_set.notType
  have cc := PySem.F.called_set.canCreate
  have tc := PySem.F.typeCall_set_1 (.ref l)
  repeat (any_goals (first | assumption | wp_step))
  refine codeAny_mono (code_set_led1 (.ref l) (E := E) (Q₁ := fun o t => o = .ref s.heap.objs.size ∧ t = { s with heap := s.heap.push (setO0 w) }) ⟨rfl, rfl⟩) fun r t hr => ?_
  cases r with
  | error e => exact hr
  | ok fl =>
    cases fl with
    | ret obj =>
      obtain ⟨rfl, rfl⟩ := hr
      have at0 : (s.heap.push (setO0 w)).get? s.heap.objs.size = some (setO0 w) := Heap.get?_push_size _ rfl
      have ty0 : Shared.TypeIs { s with heap := s.heap.push (setO0 w) } (.ref s.heap.objs.size) "set" := ⟨_, at0, rfl⟩
      have il := PySem.F.called_set.init.lookup
      have ib := PySem.F.called_set.init.bind (.ref s.heap.objs.size)
      repeat (any_goals (first | assumption | wp_step))
      refine codeAny_mono (codeAny_call_builtin (R := wants (fun r t => r = .none ∧ ∃ g tk c, t = { s with heap := g, toks := tk } ∧ SetR w g s.heap.objs.size (fun j => decide (j ∈ ns)) c ∧ c ≤ ns.length ∧
        (∀ b o, s.heap.get? b = some o → g.get? b = some o)) E) PySem.F.called_set.init.plain PySem.F.entry_set_init (check_set_init_1 ty0 ?_)) fun r2 t2 hr2 => ?_
      · obtain ⟨⟨cls, dct, dat, slo⟩, at1, ec, n1, ed⟩ := isl
        simp only at ec ed
        subst ec ed
        have at2 : (s.heap.push (setO0 w)).get? l = some { cls := .type "list", dict := dct, data := .seq us n1, slots := slo } := Heap.get?_push_of_some _ at1
        have s1 := PySem.F.sub_list_set
        have s2 := PySem.F.sub_list_frozenset
        have nd : (Value.type "list" == Value.type "dict") = false := by decide
        have isl2 : (s.heap.push (setO0 w)).IsList l us := ⟨_, at2, rfl, n1, rfl⟩
        unfold Builtin.«set.__init__» noKeywords Builtin.Frozenset.updateFrom
        generalize ePI : pyIter = PI
        wp_walk
        subst ePI
        refine wpAny_pyIter_list isl2 (wpAny_bind (wpAny_runValue ?_))
        have ll : l < s.heap.objs.size := Heap.lt_size at1
        have q3 : A.in1.in1.in1.handled = none := by simp [quiet]
        have sz1 : (s.heap.push (setO0 w)).objs.size = s.heap.objs.size + 1 := Heap.size_push ..
        have nl : l ≠ (s.heap.push (setO0 w)).objs.size := by rw [sz1]; exact Nat.ne_of_lt (Nat.lt_succ_of_lt ll)
        have apart : s.heap.objs.size ∉ [(s.heap.push (setO0 w)).objs.size, l] := by
          rw [sz1]
          simp only [List.mem_cons, List.not_mem_nil, or_false, not_or]
          exact ⟨Nat.ne_of_lt (Nat.lt_succ_self _), Nat.ne_of_gt ll⟩
        have val : ∀ (i : Nat) (v : Value), us[i]? = some v → ∃ k t, ns[i]? = some k ∧ v = .int k t := fun i v hv => by
          have lt : i < ns.length := by rw [← szl]; exact (Array.getElem?_eq_some_iff.mp hv).1
          obtain ⟨t, e⟩ := PyProof.Rows.IntsAre.int_at ia i v (by rw [Array.getElem?_toList]; exact hv)
          exact ⟨ns[i], t, List.getElem?_eq_getElem lt, by rw [e, List.getD_eq_getElem?_getD, List.getElem?_eq_getElem lt]; rfl⟩
        refine set_update_ints ((Walks.list q3 _ l nl us).toS) s.heap.objs.size apart ns szl few val (us.size - 0) 0 _ (by omega) (Nat.zero_le _) ⟨⟨_, Heap.get?_push_size _ rfl, rfl, rfl⟩, isl2.push _⟩ ⟨0, Nat.le_refl 0, setR_new_at (Heap.get?_push_of_some _ at0)⟩ ?fin
        case fin =>
          intro z c2 moved lec made2
          obtain ⟨g, g2, dr, tk, os⟩ := z
          obtain rfl : g2 = s.gens := moved.gens
          obtain rfl : dr = s.drawn := moved.drawn
          obtain rfl : os = s.os := moved.os
          show wpAny _ _ _ _ _ _
          refine wpAny_pure ?_
          show wpAny _ _ (ret Value.none) _ _ _
          refine wpAny_pure ⟨rfl, g, tk, c2, rfl, made2, by rw [← szl]; exact lec, fun b o e => ?_⟩
          have lt := Heap.lt_size e
          refine moved.heap b o ?_ (Heap.get?_push_of_some _ (Heap.get?_push_of_some _ e))
          simp only [List.mem_cons, List.not_mem_nil, or_false, not_or]
          exact ⟨Nat.ne_of_lt lt, by rw [sz1]; exact Nat.ne_of_lt (Nat.lt_succ_of_lt lt)⟩
      · cases r2 with
        | error e => exact hr2
        | ok fl2 =>
          cases fl2 with
          | ret r =>
            obtain ⟨rfl, g, tk, c2, rfl, made2, lec, kept⟩ := hr2
            repeat (any_goals (first | assumption | wp_step))
            exact q g tk c2 made2 lec kept
          | _ => exact hr2.elim
    | _ => exact hr.elim
/-- set(xs) -/
def rSetL (K : PySem.W.Frag) (w : World) : List V → Hp → VK → Prop := fun vs H Q => ∃ (a : Addr) (ns : List Int), vs = [.ref a] ∧ (SqL K H a (ns.map V.int) ∨ SqT K H a (ns.map V.int)) ∧ ns.length ≤ 4000 ∧
  ∀ p, H p = none → Q (.ref p) (upd H p (SetO w p (fun j => decide (j ∈ ns)) (srtU ns).length))
theorem nodup_perm : ∀ {l m : List Int}, l.Nodup → m.Nodup → (∀ j, j ∈ l ↔ j ∈ m) → l.length = m.length
  | [], [], _, _, _ => rfl
  | [], b :: m, _, _, h => by have := (h b).mpr (by simp); simp at this
  | a :: l, m, hl, hm, h => by
    rw [List.nodup_cons] at hl
    have am : a ∈ m := (h a).mp (by simp)
    have e := nodup_perm (l := l) (m := m.erase a) hl.2 (hm.erase a) fun j => by
      rw [hm.mem_erase_iff, ← h j, List.mem_cons]
      constructor
      · exact fun x => ⟨fun z => hl.1 (by rw [← z]; exact x), .inr x⟩
      · exact fun x => x.2.resolve_left x.1
    rw [List.length_cons, e, List.length_erase_of_mem am]
    have := List.length_pos_of_mem am
    omega
theorem rise_nodup {l : List Int} (h : l.Pairwise (· < ·)) : l.Nodup := h.imp fun x => by omega
theorem cr_setL {X : Cx} (hc : X.calm = true) : CallR X (.type "set") (rSetL X.K X.w) := by
  intro pins s σ H vs us Q I r h
  obtain ⟨a, ns, rfl, hq, few, q⟩ := h
  rw [Vals.ref1 r]
  have fin : ∀ (g : Heap) (tk c : Nat), SetR X.w g s.heap.objs.size (fun j => decide (j ∈ ns)) c → c ≤ ns.length → (∀ b o, s.heap.get? b = some o → g.get? b = some o) → EP X pins σ Q (.ref s.heap.objs.size) { s with heap := g, toks := tk } := fun g tk c made lec kept => by
    have ec : c = (srtU ns).length := by
      obtain ⟨o, es, ep, t, _, _, _, _, nd, mem, _, _, sz, _⟩ := made
      rw [← sz, ← Array.length_toList, ← List.length_map (f := keyOf)]
      refine nodup_perm nd (rise_nodup (pw_srtU ns)) fun j => ?_
      rw [← mem j, decide_eq_true_eq, mem_srtU]
    subst ec
    exact ⟨.ref _, _, I.laid (t' := tk) kept (Nat.le_refl _) (setO_new made), rfl, q _ (I.hok.fresh (Nat.le_refl _))⟩
  rcases hq with hq | hq
  · obtain ⟨its, rv, pl, hz⟩ := I.list hq
    exact set_of_list (I.ok.hd hc) pl.isList (by simpa using rv.ints) (by unfold scanBound; omega) fin
  · obtain ⟨its, rv, pl, hz⟩ := I.tuple hq
    exact call_set_tupI ns (I.ok.hd hc) pl (by simpa using rv.ints) (by unfold scanBound; omega) fin
def sortSetF : F1 := fun ds => match ds with
  | [.list a] => (intsO a).bind fun ns => if ns.length ≤ 4000 ∧ (srtU ns).length < 64 then some (.list ((srtU ns).map PyData.int)) else none
  | [.tuple a] => (intsO a).bind fun ns => if ns.length ≤ 4000 ∧ (srtU ns).length < 64 then some (.list ((srtU ns).map PyData.int)) else none
  | _ => none
/-- sorted(set(xs)) -/
theorem nf_ss {w : World} {t : TA} {a : Ax} (h : AB K t a) : NF K (tCB (rSortedSet w) (tCons (tCB (rSetL K w) t) tNil)) (xCb sortSetF a) := by
  refine ⟨fun fr σ H ρ π R d π' e Q q => ?_⟩
  obtain ⟨ds, ea, ed⟩ := xCb_some e
  refine h.go fr σ H ρ π R ds π' ea _ fun vs H1 R1 c1 av => ?_
  unfold sortSetF at ed
  have fin : ∀ (p : Addr) (ns : List Int), (SqL K H1 p (ns.map V.int) ∨ SqT K H1 p (ns.map V.int)) → ns.length ≤ 4000 ∧ (srtU ns).length < 64 → d = .list ((srtU ns).map PyData.int) → vs = [.ref p] → rSetL K w vs H1 fun x H2 => rSortedSet w [x] H2 Q := by
    intro p ns hq c ed ev
    subst ed ev
    refine ⟨p, ns, rfl, hq, c.1, fun r hr => ?_⟩
    have k1 := upN (o := SetO w r (fun j => decide (j ∈ ns)) (srtU ns).length) hr
    have R2 := R1.kp k1
    refine ⟨r, _, _, rfl, upd_same, c.2, fun ms p2 pw mem _ hn => ?_⟩
    have e5 : ms = srtU ns := rise_uniq pw (pw_srtU ns) fun k => by rw [mem k, decide_eq_true_eq, mem_srtU]
    rw [e5]
    exact q _ _ (R2.kp (upN hn)) ((c1.trans (.of k1)).trans (.of (upN hn))) ((dnNew R2.sA hn (intsDv _)).back fun a z => R2.back (c1.trans (.of k1)) z)
  split at ed
  · rename_i a
    obtain ⟨ns, ei, ed⟩ := Option.bind_eq_some_iff.mp ed
    split at ed
    · rename_i c
      cases ed
      obtain ⟨v, rfl, b⟩ := dbA1 av
      obtain ⟨p, xs, rfl, ep, rp⟩ := b.list
      rw [ints_some ei] at rp
      obtain rfl := dvInts rp
      exact fin p ns (.inl (sqL ep)) c rfl rfl
    · cases ed
  · rename_i a
    obtain ⟨ns, ei, ed⟩ := Option.bind_eq_some_iff.mp ed
    split at ed
    · rename_i c
      cases ed
      obtain ⟨v, rfl, b⟩ := dbA1 av
      obtain ⟨p, xs, rfl, ep, rp⟩ := b.tuple
      rw [ints_some ei] at rp
      obtain rfl := dvInts rp
      exact fin p ns (.inr ep.sq) c rfl rfl
    · cases ed
  · cases ed
theorem sortSetF_t (ns : List Int) (h : ns.length ≤ 4000) (h2 : (srtU ns).length < 64) : sortSetF [.tuple (ns.map PyData.int)] = some (.list ((srtU ns).map PyData.int)) := by
  simp [sortSetF, intsO_map, h, h2]
theorem sortSetF_l (ns : List Int) (h : ns.length ≤ 4000) (h2 : (srtU ns).length < 64) : sortSetF [.list (ns.map PyData.int)] = some (.list ((srtU ns).map PyData.int)) := by
  simp [sortSetF, intsO_map, h, h2]
end FL

noncomputable section
namespace FL
open PySem PySem.Spec PyProof.Rows L2 EP
variable {K : PySem.W.Frag}
/-- xs.extend(ys), ys any list that can be read -/
theorem sf_extB {nw : Bool} {i : Nat} {te : TE} {f : Ex} (h : BF K te f) : SF K nw (tDrop (tBM K "list" rExtend (tVar i) (tCons te tNil))) (sExt i f) := by
  refine ⟨fun fr σ H ρ π R ρ' π' o e D q => ?_⟩
  unfold sExt at e
  cases ef : f ρ π with
  | none => rw [ef] at e; cases e
  | some y =>
    rw [ef] at e
    simp only [Option.bind_some] at e
    split at e
    · rename_i ds es hs hy
      split at e
      · rename_i ln
        cases e
        obtain ⟨a, xs, ev, ea, dv⟩ := R.slot i _ hs
        refine ⟨_, ev, .inl ⟨rfl, xs, sqL ea⟩, ?_⟩
        refine h.go fr σ H ρ π R y.1 y.2 ef _ fun v H1 R1 c1 b => ?_
        rw [hy] at b
        obtain ⟨p, ys, rfl, e4, dw⟩ := b.list
        obtain ⟨a', xs', ev', ea', dv'⟩ := R1.slot i _ hs
        rw [ev] at ev'
        cases ev'
        refine ⟨a, p, xs', ys, rfl, rfl, ea', e4, by rw [dv'.length, dw.length]; exact szOk ln, ?_⟩
        obtain ⟨R2, s2⟩ := R1.ext hs ev dv' dw
        exact q σ _ R2 ((c1.step σ ρ).trans R.us s2)
      · cases e
    · cases e
/-! ### list(range(..)), tuple(range(..)) -/
def xRgL (mk : List D → D) (a : Ax) : Ex := fun ρ π => (iR a ρ π).bind fun x => if x.1.length ≤ 100000 then some (mk x.1, x.2) else none
theorem dvA_rg {H : Hp} {S : Addr → Prop} (a b : Int) : DvA K H S (rgV a b) (rg a (b - a).toNat) := by
  unfold rgV rg
  generalize (b - a).toNat = n
  have : ∀ l : List Nat, DvA K H S (l.map fun i => V.int (a + (i : Nat))) (l.map fun (i : Nat) => PyData.int (a + i)) := fun l => by
    induction l with
    | nil => exact .nil
    | cons i l ih => exact .cons (.int _) ih
  exact this _
theorem rg_case {t : TA} {a : Ax} {n : Nat} (h : AB K t a) (hl : ∀ ρ π es π', a ρ π = some (es, π') → es.length = n) (fr : Fm) (σ : L2.St) (H : Hp) (ρ : En) (π : Pot) (R : Rel K fr σ H ρ π) (mk : List D → D) (d : D) (π' : Pot) (e : xRgL mk a ρ π = some (d, π')) (Q : List V → Hp → Prop)
    (q : ∀ vs H', Rel K fr σ H' ρ π' → ChgP fr H H' → ∀ i j : Int, (vs = [.int j] ∧ i = 0 ∨ vs = [.int i, .int j]) → RgOk i j → d = mk (rg i (j - i).toNat) → vs.length = n → Q vs H') : t σ H Q := by
  unfold xRgL at e
  obtain ⟨x, e1, e⟩ := Option.bind_eq_some_iff.mp e
  split at e
  · rename_i c
    cases e
    obtain ⟨es, ea, ed⟩ := iR_some e1
    refine h.go fr σ H ρ π R es _ ea _ fun vs H1 R1 c1 b => ?_
    unfold rgF at ed
    split at ed
    · rename_i j
      split at ed
      · rename_i k
        have ed := Option.some.inj ed
        obtain ⟨v, rfl, h1⟩ := dbA1 b
        obtain rfl := h1.int
        have r := rgOk_of k
        rw [← ed, rg_length] at c
        refine q _ H1 R1 c1 0 j (.inl ⟨rfl, rfl⟩) ⟨by decide, by decide, r.1, r.2, by omega⟩ (by rw [← ed]; simp) (hl _ _ _ _ ea)
      · cases ed
    · rename_i i j
      split at ed
      · rename_i k
        have ed := Option.some.inj ed
        obtain ⟨v, u, rfl, h1, h2⟩ := dbA2 b
        obtain rfl := h1.int
        obtain rfl := h2.int
        have r := rgOk_of k.1
        have r2 := rgOk_of k.2
        rw [← ed, rg_length] at c
        exact q _ H1 R1 c1 i j (.inr rfl) ⟨r.1, r.2, r2.1, r2.2, Nat.le_trans c (by decide)⟩ (by rw [← ed]) (hl _ _ _ _ ea)
      · cases ed
    · cases ed
  · cases e
theorem len1 {f : Ex} : ∀ ρ π es π', aCons f aNil ρ π = some (es, π') → es.length = 1 := fun ρ π es π' e => by
  obtain ⟨d, π1, es2, e1, e2, rfl⟩ := aCons_some e
  cases e2
  rfl
theorem len2 {f g : Ex} : ∀ ρ π es π', aCons f (aCons g aNil) ρ π = some (es, π') → es.length = 2 := fun ρ π es π' e => by
  obtain ⟨d, π1, es2, e1, e2, rfl⟩ := aCons_some e
  rw [List.length_cons, len1 _ _ _ _ e2]
theorem nf_listRg1 {t : TE} {f : Ex} (h : BF K t f) : NF K (tLstRg (tRg1 t)) (xRgL .list (aCons f aNil)) := by
  refine ⟨fun fr σ H ρ π R d π' e Q q => ?_⟩
  refine rg_case (t := tCons t tNil) (ab_cons h ab_nil) len1 fr σ H ρ π R .list d π' e (fun vs H1 => match vs with | [x] => ∃ n, x = .int n ∧ RgOk 0 n ∧ ∀ p, H1 p = none → Q (.ref p) (upd H1 p (.lst (rgV 0 n))) | _ => False) fun vs H1 R1 c1 i j cs ok ed le => ?_
  rcases cs with ⟨rfl, rfl⟩ | rfl
  · subst ed
    exact ⟨j, rfl, ok, fun p hp => q _ _ (R1.kp (upN hp)) (c1.trans (.of (upN hp))) ((dnNew R1.sA hp (dvA_rg 0 j)).back fun a z => R1.back c1 z)⟩
  · cases le
theorem nf_listRg2 {t u : TE} {f g : Ex} (h : BF K t f) (h2 : BF K u g) : NF K (tLstRg (tRg2 t u)) (xRgL .list (aCons f (aCons g aNil))) := by
  refine ⟨fun fr σ H ρ π R d π' e Q q => ?_⟩
  refine rg_case (t := tCons t (tCons u tNil)) (ab_cons h (ab_cons h2 ab_nil)) len2 fr σ H ρ π R .list d π' e (fun vs H1 => match vs with | [x, y] => ∃ i j, x = .int i ∧ y = .int j ∧ RgOk i j ∧ ∀ p, H1 p = none → Q (.ref p) (upd H1 p (.lst (rgV i j))) | _ => False) fun vs H1 R1 c1 i j cs ok ed le => ?_
  rcases cs with ⟨rfl, rfl⟩ | rfl
  · cases le
  · subst ed
    exact ⟨i, j, rfl, rfl, ok, fun p hp => q _ _ (R1.kp (upN hp)) (c1.trans (.of (upN hp))) ((dnNew R1.sA hp (dvA_rg i j)).back fun a z => R1.back c1 z)⟩
theorem ef_tupRg1 {t : TE} {f : Ex} (h : BF K t f) : EF K (tTupRF (tRg1 t)) (xRgL .tuple (aCons f aNil)) := by
  refine ⟨fun fr σ H ρ π R d π' e Q q => ?_⟩
  refine rg_case (t := tCons t tNil) (ab_cons h ab_nil) len1 fr σ H ρ π R .tuple d π' e (fun vs H1 => match vs with | [x] => ∃ n, x = .int n ∧ RgOk 0 n ∧ NwT H1 (rgV 0 n) Q | _ => False) fun vs H1 R1 c1 i j cs ok ed le => ?_
  rcases cs with ⟨rfl, rfl⟩ | rfl
  · subst ed
    exact ⟨j, rfl, ok, fun p o hp ty => q _ _ (R1.kp (upN hp)) (c1.trans (.of (upN hp))) (dvTup R1.sA hp ty (dvA_rg 0 j))⟩
  · cases le
theorem ef_tupRg2 {t u : TE} {f g : Ex} (h : BF K t f) (h2 : BF K u g) : EF K (tTupRF (tRg2 t u)) (xRgL .tuple (aCons f (aCons g aNil))) := by
  refine ⟨fun fr σ H ρ π R d π' e Q q => ?_⟩
  refine rg_case (t := tCons t (tCons u tNil)) (ab_cons h (ab_cons h2 ab_nil)) len2 fr σ H ρ π R .tuple d π' e (fun vs H1 => match vs with | [x, y] => ∃ i j, x = .int i ∧ y = .int j ∧ RgOk i j ∧ NwT H1 (rgV i j) Q | _ => False) fun vs H1 R1 c1 i j cs ok ed le => ?_
  rcases cs with ⟨rfl, rfl⟩ | rfl
  · cases le
  · subst ed
    exact ⟨i, j, rfl, rfl, ok, fun p o hp ty => q _ _ (R1.kp (upN hp)) (c1.trans (.of (upN hp))) (dvTup R1.sA hp ty (dvA_rg i j))⟩
/-! ### x is True, x is not True -/
@[simp] def isBF (neg : Bool) : F2 := fun x y => match x, y with
  | .bool a, .bool b => some (.bool (if neg then !decide (a = b) else decide (a = b)))
  | _, _ => none
theorem of_isB : OF K rIsB (isBF false) := ⟨fun fr H S al x y dx dy hx hy d e Q q => by
  unfold isBF at e
  split at e
  · cases e
    exact ⟨_, _, hx.bool, hy.bool, q _ H (Kp.refl _) (.bl _)⟩
  · cases e⟩
theorem of_notB : OF K rNotB (isBF true) := ⟨fun fr H S al x y dx dy hx hy d e Q q => by
  unfold isBF at e
  split at e
  · cases e
    exact ⟨_, _, hx.bool, hy.bool, q _ H (Kp.refl _) (.bl _)⟩
  · cases e⟩
end FL

noncomputable section
namespace FL
open PySem PySem.Spec PyProof.Rows L2 EP
variable {K : PySem.W.Frag}
/-! ### methods of tuples -/
def tyT (K : PySem.W.Frag) (x : V) (H : Hp) : Prop := ∃ p, x = .ref p ∧ ((∃ o xs, TpO o ∧ H p = some (.frz o (.tup xs))) ∨ ∃ o, K.lookup p = some o ∧ TpO o)
theorem STp.tyT {H : Hp} {S : Addr → Prop} {a : Addr} {xs : List V} (h : STp K H S a xs) : tyT K (.ref a) H := by
  rcases h with ⟨o, ty, e, _⟩ | ⟨o, _, _, lk, ty, _⟩
  · exact ⟨a, rfl, .inl ⟨o, xs, ty, e⟩⟩
  · exact ⟨a, rfl, .inr ⟨o, lk, ty⟩⟩
section
variable {X : Cx}
theorem tyT_is {pins : List (Addr × Obj)} {σ : L2.St} {H : Hp} {s : Shared} {x : V} {v : Value} (I : Inv X pins σ H s) (r : RelV x v) (ty : tyT X.K x H) :
    s.TypeIs v "tuple" ∧ ∀ a, v = .ref a → ∃ ob, s.heap.get? a = some ob ∧ ob.dict = none := by
  obtain ⟨p, rfl, h⟩ := ty
  obtain rfl : v = .ref p := r
  have g : ∃ o, s.heap.get? p = some o ∧ TpO o := by
    rcases h with ⟨o, xs, t, e⟩ | ⟨o, e, t⟩
    · exact ⟨o, (I.hok p _ e).1, t⟩
    · exact ⟨o, I.kIn p o e, t⟩
  obtain ⟨o, e, t⟩ := g
  exact ⟨⟨o, e, t.1⟩, fun a z => by cases z; exact ⟨o, e, t.2⟩⟩
def tBMT (K : PySem.W.Frag) (r : V → List V → Hp → VK → Prop) (to : TE) (t : TA) : TE := fun σ H Q => to σ H fun x H1 => tyT K x H1 ∧ t σ H1 fun xs H2 => r x xs H2 Q
theorem pe_bmT {o e : Expr} {es : List Expr} {to : TE} {t : TA} {name : Str} {apos cpos : Pos} {id : String} {r : V → List V → Hp → VK → Prop} (slot : PySem.Slot "tuple" name id) (hty : typeOf (.builtin id) = pure (.type "method_descriptor")) (hm : MtR X id r) (ho : PE X o to) (ha : PA X (e :: es) t)
    (hbase : attributeBase o name X.env (eval o X.env) = eval o X.env := by rfl)
    (hfew : ((backTo cpos (starEach (e :: es) X.env)).all (fun x => !x.1) && (backToKw cpos (keywordEach [] X.env)).all (fun x => x.1.isSome) && decide ((e :: es).length + ([] : List Keyword).length + (if ([] : List Keyword).isEmpty then 0 else 1) < 30)) = true := by rfl)
    (hline : (apos.endLine == cpos.line) = true := by rfl) (hs : starEach (e :: es) X.env = (false, eval e X.env) :: starEach es X.env := by rfl) (hpl : (backTo cpos (starEach es X.env)).any (·.1) = false := by rfl) :
    PE X (.Call (.Attribute o name apos) (e :: es) [] cpos) (tBMT X.K r to t) := by
  refine ⟨fun pins s σ H Q I h => wpAny_Call_method_late hbase hfew hline rfl (thn (ho.run pins s σ H _ I h) fun v s1 w => ?_)⟩
  obtain ⟨x, H1, I1, r1, ty, q1⟩ := w
  obtain ⟨g1, g2⟩ := tyT_is I1 r1 ty
  have hA := ha.run cpos pins s1 σ H1 _ I1 q1
  refine ⟨"tuple", id, PySem.F.plainAttrs_tuple, slot, hty, g1, g2, ?_⟩
  rw [hs] at hA ⊢
  refine Calls.callWith_builtin (show (false || (backTo cpos (starEach es X.env)).any (·.1)) = false from by rw [hpl]; rfl) (Calls.evalArgs_plain (thn hA fun us s2 w2 => ?_))
  obtain ⟨vs, H2, I2, r2, q2⟩ := w2
  exact hm pins s2 σ H2 x vs v us Q I2 r1 r2 q2
theorem mt_tcount : MtR X "tuple.count" (rCntT X.K) := by
  intro pins s σ H x xs v us Q I rx rxs h
  obtain ⟨p, ns, k, rfl, rfl, hs, q⟩ := h
  cases rx
  obtain ⟨u, rfl, t, rfl⟩ := rxs.one
  obtain ⟨its, rv, ⟨⟨cls, dct, dat, slo⟩, at1, ec, n1, ed⟩, _⟩ := I.tuple hs
  simp only at ec ed
  subst ec ed
  have ia := ints_of_vals rv
  refine call_meets PySem.F.slot_tuple_count ⟨_, at1, rfl⟩ PySem.F.entry_tuple_count (PySem.F.args_tuple_count_2 _ _) (SeqAt.tuple_countAt p its.toArray n1 dct slo (.int k t) (eqk k)) ⟨at1, fun y hy => (eqk_gives ia y (by simpa using hy)).at _ _, ?_⟩
  have e2 : its.toArray.toList.countP (eqk k) = ns.count k := eqk_count ia
  rw [e2]
  exact ⟨.int (ns.count k : Nat), H, I.tok _, ⟨s.toks, rfl⟩, q⟩
end
/-- how often a whole number stands in a list or a tuple of whole numbers -/
def cntF : F2 := fun x y => match x, y with
  | .tuple a, .int k => (intsO a).map fun ns => .int (ns.count k : Nat)
  | .list a, .int k => (intsO a).map fun ns => .int (ns.count k : Nat)
  | _, _ => none
def cntT : F2 := fun x y => match x with
  | .tuple _ => cntF x y
  | _ => none
def cntL : F2 := fun x y => match x with
  | .list _ => cntF x y
  | _ => none
theorem ef_tcount {ta tk : TE} {f g : Ex} (h : BF K ta f) (h2 : BF K tk g) : EF K (tBMT K (rCntT K) ta (tCons tk tNil)) (xOp cntT f g) := by
  refine ⟨fun fr σ H ρ π R d π' e Q q => ?_⟩
  obtain ⟨dx, π1, dy, ea, eb, ed⟩ := xOp_some e
  refine h.go fr σ H ρ π R dx π1 ea _ fun x H1 R1 c1 bx => ?_
  unfold cntT at ed
  split at ed
  · rename_i a
    obtain ⟨p, xs, rfl, ep, rp⟩ := bx.tuple
    refine ⟨ep.tyT, ?_⟩
    refine h2.go fr σ H1 ρ π1 R1 dy π' eb _ fun y H2 R2 c2 byy => ?_
    unfold cntF at ed
    split at ed
    · rename_i a2 k e1
      cases e1
      obtain ⟨ns, ei, ed⟩ := Option.map_eq_some_iff.mp ed
      cases ed
      obtain rfl := byy.int
      obtain ⟨p2, xs2, e3, ep2, rp2⟩ := (bx.chg R1 c2).tuple
      cases e3
      rw [ints_some ei] at rp2
      obtain rfl := dvInts rp2
      exact ⟨_, ns, k, rfl, rfl, ep2.sq, q _ H2 R2 (c1.trans c2) (.int _)⟩
    · rename_i a2 k e1; cases e1
    · cases ed
  · cases ed
theorem ef_lcount {ta tk : TE} {f g : Ex} (h : BF K ta f) (h2 : BF K tk g) : EF K (tBM K "list" (rCntI K) ta (tCons tk tNil)) (xOp cntL f g) := by
  refine ⟨fun fr σ H ρ π R d π' e Q q => ?_⟩
  obtain ⟨dx, π1, dy, ea, eb, ed⟩ := xOp_some e
  refine h.go fr σ H ρ π R dx π1 ea _ fun x H1 R1 c1 bx => ?_
  unfold cntL at ed
  split at ed
  · rename_i a
    obtain ⟨p, xs, rfl, ep, rp⟩ := bx.list
    refine ⟨.inl ⟨rfl, xs, sqL ep⟩, ?_⟩
    refine h2.go fr σ H1 ρ π1 R1 dy π' eb _ fun y H2 R2 c2 byy => ?_
    unfold cntF at ed
    split at ed
    · rename_i a2 k e1; cases e1
    · rename_i a2 k e1
      cases e1
      obtain ⟨ns, ei, ed⟩ := Option.map_eq_some_iff.mp ed
      cases ed
      obtain rfl := byy.int
      obtain ⟨p2, xs2, e3, ep2, rp2⟩ := (bx.chg R1 c2).list
      cases e3
      rw [ints_some ei] at rp2
      obtain rfl := dvInts rp2
      exact ⟨_, ns, k, rfl, rfl, sqL ep2, q _ H2 R2 (c1.trans c2) (.int _)⟩
    · cases ed
  · cases ed
end FL

noncomputable section
namespace FL
open PySem PySem.Spec PyProof.Rows L2 EP
variable {K : PySem.W.Frag}
/-! ### list(d.items()): the pairs are tuples known to have no dict -/
def rItemsF : V → Hp → VK → Prop := fun x H Q => ∃ (d : Addr) (kvs : List (Key × V)), x = .ref d ∧ H d = some (.dK kvs) ∧
  ∀ (H' : Hp) (p : Addr) (ts : List Addr), Kp H H' → H p = none → (∀ t ∈ ts, H t = none) → p ∉ ts → H' p = some (.lst (ts.map V.ref)) → Paired (fun (t : Addr) (q : Key × V) => ∃ o, TpO o ∧ H' t = some (.frz o (.tup [kV q.1, q.2]))) ts kvs → Q (.ref p) H'
def tItemsF (te : TE) : TE := fun σ H Q => te σ H fun x H1 => rItemsF x H1 Q
/-- the tuples at their addresses -/
def putF : Hp → List (Addr × Obj) → List (Key × V) → Hp
  | H, a :: as, p :: kvs => putF (upd H a.1 (.frz a.2 (.tup [kV p.1, p.2]))) as kvs
  | H, _, _ => H
theorem putF_off {b : Addr} : ∀ (as : List (Addr × Obj)) (kvs : List (Key × V)) (H : Hp), b ∉ as.map Prod.fst → putF H as kvs b = H b
  | [], _, _, _ => rfl
  | _ :: _, [], _, _ => rfl
  | a :: as, p :: kvs, H, h => by
    rw [List.map_cons, List.mem_cons, not_or] at h
    show putF (upd H a.1 _) as kvs b = H b
    rw [putF_off as kvs _ h.2, upd_ne h.1]
theorem putF_at : ∀ (as : List (Addr × Obj)) (kvs : List (Key × V)) (H : Hp), as.length = kvs.length → (as.map Prod.fst).Nodup → ∀ (j : Nat) (a : Addr × Obj) (p : Key × V), as[j]? = some a → kvs[j]? = some p → putF H as kvs a.1 = some (.frz a.2 (.tup [kV p.1, p.2]))
  | [], _, _, _, _, j, a, p, h, _ => by simp at h
  | _ :: _, [], _, _, _, j, a, p, _, h => by simp at h
  | a :: as, p :: kvs, H, hl, nd, 0, a', p', h1, h2 => by
    simp only [List.getElem?_cons_zero, Option.some.injEq] at h1 h2
    subst h1 h2
    rw [List.map_cons, List.nodup_cons] at nd
    show putF (upd H a.1 _) as kvs a.1 = _
    rw [putF_off as kvs _ nd.1, upd_same]
  | a :: as, p :: kvs, H, hl, nd, j + 1, a', p', h1, h2 => by
    rw [List.map_cons, List.nodup_cons] at nd
    exact putF_at as kvs _ (by simpa using hl) nd.2 j a' p' (by simpa using h1) (by simpa using h2)
section
variable {X : Cx}
theorem paired_of {α β : Type} {F : α → β → Prop} : ∀ {xs : List α} {ys : List β}, xs.length = ys.length → (∀ (j : Nat) x y, xs[j]? = some x → ys[j]? = some y → F x y) → Paired F xs ys
  | [], [], _, _ => .nil
  | [], _ :: _, h, _ => by cases h
  | _ :: _, [], h, _ => by cases h
  | x :: xs, y :: ys, h, f => .cons (f 0 x y rfl rfl) (paired_of (by simpa using h) fun j x' y' h1 h2 => f (j + 1) x' y' (by simpa using h1) (by simpa using h2))
theorem pe_itemsF {e : Expr} {te : TE} {p apos cpos pos : Pos} (hc : X.calm = true) (he : PE X e te) (hg : Gl X "list") (hm : X.mg "list" = none) (hv : bootBuiltins "list" = some (.type "list")) (hbase : attributeBase e "items" X.env (eval e X.env) = eval e X.env := by rfl) (hline : (apos.endLine == cpos.line) = true := by rfl)
    (hs : starEach [.Call (.Attribute e "items" apos) [] [] cpos] X.env = (false, eval (.Call (.Attribute e "items" apos) [] [] cpos) X.env) :: starEach [] X.env := by rfl) :
    PE X (.Call (.Name "list" p) [.Call (.Attribute e "items" apos) [] [] cpos] [] pos) (tItemsF te) := by
  refine ⟨fun pins s σ H Q I hq => wpAny_Call_Name_kw (ld_blt I hg hm hv (PyProof.Rows.callWith_type1 ?_ hs rfl))⟩
  rw [hs]
  show wpAny _ _ (spliced ((false, eval (.Call (.Attribute e "items" apos) [] [] cpos) X.env) :: backTo pos (starEach [] X.env))) _ _ s
  refine Calls.spliced_cons (wpAny_Call_method (T := "dict") (id := "dict.items") hbase rfl hline F.plainAttrs_dict F.slot_dict_items F.type_dict_items (thn (he.run pins s σ H _ I hq) fun u s1 w => ?_))
  obtain ⟨x, H1, I1, rx, d, kvs, rfl, hd, q⟩ := w
  obtain rfl : u = Value.ref d := rx
  obtain ⟨hz, hs0, vs, kv, hdo⟩ := I1.hok d _ hd
  obtain ⟨ep, hat⟩ := hdo.dictAt
  have lk : kvs.length = vs.length := Paired.length kv
  have I2 : Inv X pins σ H1 { s1 with heap := s1.heap.push { cls := .type "dict_items", data := .fields #[.ref d] } } := I1.kept (t' := s1.toks) fun b ob q => Heap.get?_push_of_some _ q
  refine ⟨hdo.typeIs, hdo.mapOf.noDict, ?_⟩
  show wpAny _ _ (callWith cpos (.builtin "dict.items") [.ref d] [] []) _ X.xe s1
  refine method_meetsIn F.slot_dict_items F.entry_dict_items rfl (PySem.evalArgs_none ⟨rfl, hdo.typeIs, F.args_dict_items_1 _, _, meets_dict_items (mixKind X.prog X.w) d hs0, ⟨vs, hdo⟩, ?_⟩)
  refine Calls.spliced_nil (PySem.W.kdx_call (knd := mixKind X.prog X.w) (kvs := vs) (ep := ep) (I1.ok.hd hc) ⟨_, Heap.get?_push_size _ rfl, rfl, rfl⟩ (hat.push _) (by omega) fun g tk acc c as hk hS hl hG hacc => ?_)
  -- each pair's object
  obtain ⟨P, hP⟩ : ∃ P, P = s1.heap.objs.size + 1 := ⟨_, rfl⟩
  have sz : (s1.heap.push { cls := .type "dict_items", data := .fields #[.ref d] }).objs.size = P := by rw [hP]; exact Heap.size_push ..
  rw [sz] at hS hG ⊢
  have big : ∀ t ∈ as, P < t := hG.above
  let ob : Addr → Obj := fun t => (g.get? t).getD default
  have obj : ∀ (j : Nat) (a : Addr) (y : Key × V), as[j]? = some a → kvs[j]? = some y → ∃ key v, g.get? a = some { cls := .type "tuple", data := .seq #[key, v] } ∧ RelV (kV y.1) key ∧ RelV y.2 v := fun j a y e1 e2 => by
    obtain ⟨key, k, v, f1, f2, f3⟩ := hG.pairs j a e1
    obtain ⟨qv, g1, g2, g3⟩ := LiI.paired_get kv e2
    rw [f1] at g1
    cases g1
    refine ⟨key, v, f3, ?_, g3⟩
    rw [g2]
    exact relV_key (show keyIs k key = true from f2)
  have nd : as.Nodup := hG.rise.imp fun h => Nat.ne_of_lt h
  have la : as.length = kvs.length := by omega
  let prs : List (Addr × Obj) := as.map fun t => (t, ob t)
  have fst : prs.map Prod.fst = as := by show (as.map fun t => (t, ob t)).map Prod.fst = as; rw [List.map_map]; exact List.map_id _
  have hH : ∃ H', H' = putF (upd H1 P (.lst (as.map V.ref))) prs kvs := ⟨_, rfl⟩
  obtain ⟨H', hH⟩ := hH
  have newS : H1 P = none := I2.hok.fresh (Nat.le_of_eq sz)
  have new : ∀ t ∈ as, H1 t = none := fun t ht => I2.hok.fresh (by rw [sz]; exact Nat.le_of_lt (big t ht))
  have nP : P ∉ as := fun z => Nat.lt_irrefl _ (big _ z)
  have off : ∀ b, b ∉ as → b ≠ P → H' b = H1 b := fun b h1 h2 => by rw [hH, putF_off _ _ _ (by rw [fst]; exact h1), upd_ne h2]
  have atS : H' P = some (.lst (as.map V.ref)) := by rw [hH, putF_off _ _ _ (by rw [fst]; exact nP), upd_same]
  have atT : ∀ (j : Nat) (a : Addr) (y : Key × V), as[j]? = some a → kvs[j]? = some y → H' a = some (.frz (ob a) (.tup [kV y.1, y.2])) := fun j a y e1 e2 => by
    rw [hH]
    exact putF_at prs kvs _ (by simp [prs, la]) (by rw [fst]; exact nd) j (a, ob a) y (by simp [prs, e1]) e2
  have obE : ∀ (j : Nat) (a : Addr) (y : Key × V), as[j]? = some a → kvs[j]? = some y → ∃ key v, ob a = { cls := .type "tuple", data := .seq #[key, v] } ∧ g.get? a = some (ob a) ∧ RelV (kV y.1) key ∧ RelV y.2 v := fun j a y e1 e2 => by
    obtain ⟨key, v, o1, o2, o3⟩ := obj j a y e1 e2
    have : ob a = { cls := .type "tuple", data := .seq #[key, v] } := by show (g.get? a).getD default = _; rw [o1]; rfl
    exact ⟨key, v, this, by rw [o1, this], o2, o3⟩
  have kp : Kp H1 H' := fun b u e => by
    rw [off b (fun z => by rw [new b z] at e; cases e) (fun z => by rw [z, newS] at e; cases e)]
    exact e
  have J : Inv X pins σ H' { s1 with heap := g, toks := tk } := by
    refine I2.call' (ch := []) rfl ⟨fun b o q _ _ _ => hk b o q, fun b o q _ _ _ => ⟨o.slots, hk b o q⟩, fun b o q n _ => ?_, fun b o q _ => ⟨o, hk b o q⟩, fun b xs q => kp b _ q, fun b o u q => kp b _ q, fun b ps q => ⟨#[], by rw [kp b _ q]; simp⟩⟩ (fun b u q => ?_) I2.bare fun b z => by simp at z
    · have lt := Heap.lt_size q
      rw [sz] at lt
      rw [off b (fun z => absurd (big b z) (Nat.not_lt.mpr (Nat.le_of_lt lt))) (Nat.ne_of_lt lt)]
      exact n
    · by_cases hb : b ∈ as
      · obtain ⟨j, hj⟩ := List.mem_iff_getElem?.mp hb
        have lj := (List.getElem?_eq_some_iff.mp hj).1
        have hy : kvs[j]? = some (kvs[j]'(by omega)) := List.getElem?_eq_getElem (by omega)
        obtain ⟨key, v, o1, o2, o3, o4⟩ := obE j b _ hj hy
        rw [atT j b _ hj hy] at q
        cases q
        exact ⟨o2, by show 2 ≤ sizeLine; decide, [key, v], .cons o3 (.cons o4 .nil), ob b, o2, by rw [o1], 0, by rw [o1]⟩
      · by_cases hb2 : b = P
        · rw [hb2] at q ⊢
          rw [atS] at q
          cases q
          refine ⟨by rw [List.length_map]; omega, acc.toList, c, by rw [hacc]; exact LiI.vals_refs as, ?_⟩
          rw [Array.toArray_toList]
          exact hS
        · rw [off b hb hb2] at q
          exact (I2.hok b u q).stay (fun d v _ y => hk d v y) (fun d y => kp d _ y) fun d xs y => kp d _ y
  refine ⟨.ref P, H', J, rfl, q H' P as kp newS new nP atS (paired_of la fun j a y e1 e2 => ?_)⟩
  obtain ⟨key, v, o1, _⟩ := obE j a y e1 e2
  exact ⟨ob a, by rw [o1]; exact ⟨rfl, rfl⟩, atT j a y e1 e2⟩
end
theorem items_rel {H H' : Hp} {S : Addr → Prop} {p : Addr} (kp : ∀ b o, H b = some o → H' b = some o) (al : ∀ a, S a → H a ≠ none) : ∀ {ts : List Addr} {ks : List (Key × V)} {kvs : List (Key × D)}, (∀ t ∈ ts, H t = none) → p ∉ ts → Paired (fun (t : Addr) (q : Key × V) => ∃ o, TpO o ∧ H' t = some (.frz o (.tup [kV q.1, q.2]))) ts ks →
    ks.map (·.1) = kvs.map (·.1) → DvA K H' (fun a => S a ∨ a = p) (ks.map (·.2)) (kvs.map (·.2)) → DvA K H' (fun a => S a ∨ a = p) (ts.map V.ref) (rowsK kvs)
  | [], [], [], _, _, _, _, _ => .nil
  | [], _ :: _, _, _, _, pr, _, _ => by cases pr
  | _ :: _, [], _, _, _, pr, _, _ => by cases pr
  | _ :: _, _ :: _, [], _, _, _, m, _ => by cases m
  | [], [], _ :: _, _, _, _, m, _ => by cases m
  | t :: ts, qk :: qs, kv :: kvs, nt, np, pr, m, dv => by
    have m1 : qk.1 = kv.1 ∧ qs.map (·.1) = kvs.map (·.1) := by simpa using m
    cases pr with
    | cons h0 h2 =>
      obtain ⟨o1, ty, h1⟩ := h0
      cases dv with
      | cons d1 d2 =>
        refine .cons (.tup (.inl ⟨o1, ty, h1, fun z => ?_⟩) (.cons ?_ (.cons d1 .nil))) (items_rel kp al (fun t ht => nt t (List.mem_cons_of_mem _ ht)) (fun z => np (List.mem_cons_of_mem _ z)) h2 m1.2 d2)
        · rcases z with z | z
          · exact al t z (nt t List.mem_cons_self)
          · exact np (by rw [← z]; exact List.mem_cons_self)
        · rw [m1.1]; exact dv_key _
theorem nf_items {i : Nat} : NF K (tItemsF (tVar i)) (xItems i) := by
  refine ⟨fun fr σ H ρ π R d π' e Q q => ?_⟩
  unfold xItems at e
  split at e
  · rename_i kvs hs
    cases e
    obtain ⟨a, ks, ev, ea, m, dv⟩ := R.slot i _ hs
    refine ⟨_, ev, a, ks, rfl, ea, fun H' p ts kp hp nt np hl pr => ?_⟩
    have k2 : Kp H H' := fun b o h => kp b o h
    have R2 := R.kp k2
    have dv2 : DvA K H' (fun a => (wd fr σ ρ H').S a ∨ a = p) (ks.map (·.2)) (kvs.map (·.2)) :=
      dv.step (A := ⟨fun _ => False, (wd fr σ ρ H).S, H⟩) (B := ⟨fun _ => False, fun a => (wd fr σ ρ H').S a ∨ a = p, H'⟩) (fun a h => h.elim) ⟨fun b o _ h => kp b o h, fun a h => h.elim, fun a h => h.elim .inl (fun z => .inr (by rw [z]; exact hp))⟩
    exact q _ H' R2 (.of k2) ⟨p, ts.map V.ref, rowsK kvs, rfl, rfl, hp, hl, fun z => R.sA p z hp, items_rel kp R.sA nt np pr m dv2⟩
  · cases e
end FL

noncomputable section
namespace FL
open PySem PySem.Spec PyProof.Rows L2 EP
variable {K : PySem.W.Frag}
/-! ### sum of a list or of a tuple of whole numbers -/
def rSumA (K : PySem.W.Frag) : List V → Hp → VK → Prop := fun vs H Q => ∃ (a : Addr) (ns : List Int), vs = [V.ref a] ∧ (SqL K H a (ns.map V.int) ∨ SqT K H a (ns.map V.int)) ∧ Q (.int ns.sum) H
theorem cr_sumA {X : Cx} (hc : X.calm = true) : CallR X (.builtin "sum") (rSumA X.K) := by
  intro pins s σ H vs us Q I r h
  obtain ⟨a, ns, rfl, hs, q⟩ := h
  rcases hs with hs | hs
  · exact cr_sum hc pins s σ H _ us Q I r ⟨a, ns, rfl, hs, q⟩
  · obtain ⟨its, rv, ht, _⟩ := I.tuple hs
    rw [Vals.ref1 r]
    obtain ⟨xs, hx⟩ := rv.ints.allInts.items
    have hn : numsOf its.toArray.toList = ns := by rw [show its.toArray.toList = its from rfl, rv.ints.numsOf]
    rw [hx] at ht hn
    rw [nums_intItems] at hn
    refine PySem.W.ktm_sumG (I.ok.hd hc) ht fun h' tk t' hk => ?_
    rw [preSum_eq, List.take_of_length_le (by simp), hn]
    exact ⟨.int _, H, I.kept hk, ⟨_, rfl⟩, q⟩
def sumAF : F1 := fun ds => match ds with
  | [.list a] => (intsO a).map fun ns => .int ns.sum
  | [.tuple a] => (intsO a).map fun ns => .int ns.sum
  | _ => none
theorem cf_sumA : CF K (rSumA K) sumAF := ⟨fun fr H S al vs ds hx d e Q q => by
  unfold sumAF at e
  split at e
  · rename_i a
    cases ei : intsO a with
    | none => rw [ei] at e; cases e
    | some ns =>
      rw [ei] at e
      cases e
      obtain ⟨v, rfl, h⟩ := dbA1 hx
      obtain ⟨p, xs, rfl, ep, rp⟩ := h.list
      rw [ints_some ei] at rp
      obtain rfl := dvInts rp
      exact ⟨p, ns, rfl, .inl (sqL ep), q _ H (Kp.refl _) (.int _)⟩
  · rename_i a
    cases ei : intsO a with
    | none => rw [ei] at e; cases e
    | some ns =>
      rw [ei] at e
      cases e
      obtain ⟨v, rfl, h⟩ := dbA1 hx
      obtain ⟨p, xs, rfl, ep, rp⟩ := h.tuple
      rw [ints_some ei] at rp
      obtain rfl := dvInts rp
      exact ⟨p, ns, rfl, .inr ep.sq, q _ H (Kp.refl _) (.int _)⟩
  · cases e⟩
theorem sumAF_l (ns : List Int) : sumAF [.list (ns.map PyData.int)] = some (.int ns.sum) := by
  simp [sumAF, intsO_map]
theorem sumAF_t (ns : List Int) : sumAF [.tuple (ns.map PyData.int)] = some (.int ns.sum) := by
  simp [sumAF, intsO_map]
end FL

noncomputable section
namespace FL
open PySem PySem.Spec PyProof.Rows L2 EP
variable {K : PySem.W.Frag}
/-! ### sorted(..) of a list of tuples of whole numbers, any number of them -/
def lexI : List Int → List Int → Bool
  | [], [] => false
  | [], _ :: _ => true
  | _ :: _, [] => false
  | x :: r, y :: t => decide (x < y) || (!decide (y < x) && lexI r t)
theorem lex_inl : ∀ a b : List Int, lexLt itemOrd (a.map Sum.inl) (b.map Sum.inl) = lexI a b
  | [], [] => rfl
  | [], _ :: _ => rfl
  | _ :: _, [] => rfl
  | x :: r, y :: t => by
    rw [List.map_cons, List.map_cons, lex_cons, lex_inl r t]
    rfl
def shp0 : Nat → Bool := fun _ => false
def deck (o : Option (List (Int ⊕ List Nat))) : List Int := (o.getD []).filterMap fun x => match x with | .inl n => some n | .inr _ => none
theorem deck_inl (ns : List Int) : deck (some (ns.map Sum.inl)) = ns := by
  unfold deck
  show (ns.map Sum.inl).filterMap _ = ns
  induction ns with
  | nil => rfl
  | cons a r ih => rw [List.map_cons, List.filterMap_cons]; simp only [ih]
theorem items_ints : ∀ {its : List Value} {ns : List Int} (i : Nat), IntsAre its ns → tupItems shp0 i its = some (ns.map Sum.inl)
  | _, _, i, .nil => rfl
  | _, _, i, .cons _ _ h => by
    have ih := items_ints (i + 1) h
    unfold tupItems
    rw [if_neg (show ¬ shp0 i = true from Bool.false_ne_true), ih]
    rfl
theorem key_ints {h : Heap} {a : Addr} {its : List Value} {ns : List Int} (ht : h.IsTuple a its.toArray) (hi : IntsAre its ns) : G.tupKeyC h shp0 (.ref a) = some (ns.map Sum.inl) := by
  obtain ⟨o, ho, hc, n, hd⟩ := ht
  have c : G.isTupObj h (.ref a) = true := by
    simp [G.isTupObj, ho, hc]
  unfold G.tupKeyC
  rw [if_pos c]
  simp only [tupKey, ho, hd]
  exact items_ints 0 hi
theorem tupsOf_ints {h : Heap} : ∀ {its : List Value}, (∀ v ∈ its, ∃ a us ns, v = .ref a ∧ h.IsTuple a (List.toArray us) ∧ IntsAre us ns ∧ ns ≠ []) → ∃ fs, TupsOf h shp0 its fs
  | [], _ => ⟨[], .nil⟩
  | v :: r, q => by
    obtain ⟨fs, t⟩ := tupsOf_ints (its := r) fun v hv => q v (List.mem_cons_of_mem _ hv)
    obtain ⟨a, us, ns, rfl, ⟨o, ho, hc, n, hd⟩, hi, ne⟩ := q v List.mem_cons_self
    cases hi with
    | nil => exact absurd rfl ne
    | cons _ _ hi => exact ⟨_ :: fs, .cons ⟨a, o, _, n, rfl, ho, hc, hd, rfl, fun _ => ⟨_, _, rfl⟩, fun z => by cases z⟩ t⟩
theorem sorted_tupsB {prog : Program} {w : World} {A : Around} {E : Value → Shared → Prop} {s : Shared} {a : Addr} {its : List Value} {Q : Value → Shared → Prop} (hl : s.heap.IsList a its.toArray)
    (ht : ∀ v ∈ its, ∃ b us ns, v = .ref b ∧ s.heap.IsTuple b (List.toArray us) ∧ IntsAre us ns ∧ (2 ≤ its.length → ns ≠ [])) (hz : its.length ≤ sizeLine)
    (h : ∀ (out : List Value) (g : Heap), out.Perm its → out.Pairwise (fun v w => lexI (deck (G.tupKeyC s.heap shp0 w)) (deck (G.tupKeyC s.heap shp0 v)) = false) → (∀ b o, s.heap.get? b = some o → g.get? b = some o) → (∃ e, g.get? (s.heap.objs.size + 1) = some (seqObj "list" out.toArray e)) → Q (.ref (s.heap.objs.size + 1)) { s with heap := g }) :
    wpAny (model prog w) A (call (.builtin "sorted") [.ref a]) Q E s := by
  have hk : ∀ v, v ∈ its → ∃ ns : List Int, G.tupKeyC s.heap shp0 v = some (ns.map Sum.inl) := fun v hv => by
    obtain ⟨b, us, ns, rfl, h1, h2, _⟩ := ht v hv
    exact ⟨ns, key_ints h1 h2⟩
  refine G.sortedG (κ := G.tupKindC s.heap shp0) (kd := tuples' true) hl (G.tupKeys fun v hv => ?_) (fun s₂ k => G.tupC_ltAt (s := s₂) true k) (fun h2 _ _ s₂ _ k hq => ?_) hz fun st' a1 a2 a3 => ?_
  · obtain ⟨ns, e⟩ := hk v hv
    exact ⟨_, e⟩
  · obtain ⟨fs, t⟩ := tupsOf_ints (h := s.heap) (its := its) fun v hv => by
      obtain ⟨b, us, ns, e, h1, h3, h4⟩ := ht v hv
      exact ⟨b, us, ns, e, h1, h3, h4 h2⟩
    exact tup_kind (s := s₂) (by rw [G.TupsOf.length t]; omega) (G.TupsOf.keep k t) hq
  · have pl : (arrOf st').toList.Perm (its.zip its) := by
      have := a1.toList
      rw [pairsOf_toList] at this
      exact this
    have same : ∀ p ∈ (arrOf st').toList, p.1 = p.2 ∧ p.1 ∈ its := fun p hp => mem_zip_self (pl.mem_iff.mp hp)
    have oe : ((arrOf st').map (·.2)) = List.toArray ((arrOf st').toList.map (·.2)) := by
      rw [← Array.toList_map, Array.toArray_toList]
    have zs : ∀ l : List Value, (l.zip l).map (·.2) = l := fun l => by
      induction l with
      | nil => rfl
      | cons x l ih => rw [List.zip_cons_cons, List.map_cons, ih]
    rw [oe]
    refine h _ _ ?_ ?_ (fun b o e => sortedAll_old e) (sortedAll_at _ _ _)
    · have := pl.map (·.2)
      rw [zs] at this
      exact this
    · rw [List.pairwise_iff_getElem]
      intro i j hi hj lt
      rw [List.length_map] at hi hj
      rw [List.getElem_map, List.getElem_map]
      have lj : j < (pairsOf its).size := by
        rw [pairsOf_size]
        have := pl.length_eq
        rw [List.length_zip] at this
        omega
      have kk : ∀ (k : Nat) (hk2 : k < (arrOf st').toList.length), ∃ ns : List Int, KK (G.tupKindC s.heap shp0) (arrOf st') k = ns.map Sum.inl ∧ deck (G.tupKeyC s.heap shp0 ((arrOf st').toList[k]).2) = ns := fun k hk2 => by
        obtain ⟨e1, m⟩ := same _ (List.getElem_mem hk2)
        obtain ⟨ns, e2⟩ := hk _ m
        refine ⟨ns, ?_, ?_⟩
        · unfold KK
          have e3 : (arrOf st')[k]? = some ((arrOf st').toList[k]) := by
            rw [← Array.getElem?_toList, List.getElem?_eq_getElem hk2]
          rw [e3]
          show ((G.tupKeyC s.heap shp0 ((arrOf st').toList[k]).1).getD _) = _
          rw [e2]; rfl
        · rw [← e1, e2, deck_inl]
      obtain ⟨n1, f1, g1⟩ := kk i hi
      obtain ⟨n2, f2, g2⟩ := kk j hj
      have q : lexLt itemOrd (KK (G.tupKindC s.heap shp0) (arrOf st') j) (KK (G.tupKindC s.heap shp0) (arrOf st') i) = false := a2 i j (Nat.le_of_lt lt) lj
      rw [f1, f2, lex_inl] at q
      rw [g1, g2]
      exact q
/-- sorted(xs) of tuples of whole numbers; none of them is empty if there are two -/
def rSortTs (K : PySem.W.Frag) : List V → Hp → VK → Prop := fun vs H Q => ∃ (a : Addr) (L : List (V × List Int)), vs = [V.ref a] ∧ SqL K H a (L.map (·.1)) ∧ (∀ p ∈ L, ∃ t, p.1 = .ref t ∧ SqT K H t (p.2.map V.int)) ∧ (2 ≤ L.length → ∀ p ∈ L, p.2 ≠ []) ∧
  ∀ (M : List (V × List Int)) (p : Addr), M.Perm L → M.Pairwise (fun x y => lexI y.2 x.2 = false) → H p = none → Q (.ref p) (upd H p (.lst (M.map (·.1))))
theorem cr_sortTs {X : Cx} : CallR X (.builtin "sorted") (rSortTs X.K) := by
  intro pins s σ H vs us Q I r h
  obtain ⟨a, L, rfl, hs, hL, hne, q⟩ := h
  rw [Vals.ref1 r]
  obtain ⟨its, rv, hl, hz⟩ := I.list hs
  obtain ⟨e1, e2⟩ := refs_back rv fun x m => by
    obtain ⟨p, hp, rfl⟩ := List.mem_map.mp m
    obtain ⟨t, e, _⟩ := hL p hp
    exact ⟨t, e⟩
  have hlen : L.length = its.length := by
    have := rv.length
    rw [List.length_map] at this
    exact this
  -- each tuple's key
  have key : ∀ p ∈ L, ∃ t us, p.1 = .ref t ∧ s.heap.IsTuple t (List.toArray us) ∧ IntsAre us p.2 := fun p hp => by
    obtain ⟨t, e, st⟩ := hL p hp
    obtain ⟨us, ru, hu, _⟩ := I.tuple st
    exact ⟨t, us, e, hu, ru.ints⟩
  let g : Value → List Int := fun v => deck (G.tupKeyC s.heap shp0 v)
  have gk : ∀ p ∈ L, ∃ t, p.1 = .ref t ∧ g (.ref t) = p.2 := fun p hp => by
    obtain ⟨t, us, e, hu, hi⟩ := key p hp
    refine ⟨t, e, ?_⟩
    show deck (G.tupKeyC s.heap shp0 (.ref t)) = p.2
    rw [key_ints hu hi, deck_inl]
  have eL : L = its.map fun v => (backV v, g v) := by
    refine List.ext_getElem (by rw [List.length_map]; exact hlen) fun i h1 h2 => ?_
    rw [List.length_map] at h2
    obtain ⟨t, e, eg⟩ := gk _ (List.getElem_mem h1)
    have e3 : (L.map (·.1))[i]'(by rw [List.length_map]; exact h1) = (its.map backV)[i]'(by rw [List.length_map]; exact h2) := by
      congr 1
    rw [List.getElem_map, List.getElem_map] at e3
    rw [List.getElem_map]
    obtain ⟨u, eu⟩ := e2 _ (List.getElem_mem h2)
    have e4 : its[i] = .ref t := by
      rw [eu] at e3 ⊢
      rw [e] at e3
      have : V.ref t = V.ref u := e3
      cases this
      rfl
    refine Prod.ext ?_ ?_
    · rw [e3]
    · show L[i].2 = g its[i]
      rw [e4, eg]
  refine sorted_tupsB hl.isList (fun v hv => ?_) (by rw [← hlen]; rw [List.length_map] at hz; exact hz) fun out gh hp hs2 kg he => ?_
  · obtain ⟨i, hi, rfl⟩ := List.mem_iff_getElem.mp hv
    have hi2 : i < L.length := by rw [hlen]; exact hi
    obtain ⟨t, us, e, hu, hI⟩ := key _ (List.getElem_mem hi2)
    have e5 : L[i].1 = backV its[i] := by
      have : L[i] = (its.map fun v => (backV v, g v))[i]'(by rw [List.length_map]; exact hi) := by congr 1
      rw [this, List.getElem_map]
    obtain ⟨u, eu⟩ := e2 _ (List.getElem_mem hi)
    rw [eu, e] at e5
    have : V.ref t = V.ref u := e5
    cases this
    exact ⟨t, us, _, eu, hu, hI, fun h2 => hne (by omega) _ (List.getElem_mem hi2)⟩
  · let M : List (V × List Int) := out.map fun v => (backV v, g v)
    have pM : M.Perm L := by rw [eL]; exact hp.map _
    have sM : M.Pairwise fun x y => lexI y.2 x.2 = false := List.pairwise_map.mpr hs2
    have vM : Vals (M.map (·.1)) out := by
      have : ∀ l : List Value, (∀ v ∈ l, ∃ t, v = .ref t) → Vals ((l.map fun v => (backV v, g v)).map (·.1)) l := fun l => by
        induction l with
        | nil => exact fun _ => .nil
        | cons v l ih =>
          intro q
          obtain ⟨t, rfl⟩ := q v List.mem_cons_self
          exact .cons rfl (ih fun w hw => q w (List.mem_cons_of_mem _ hw))
      exact this out fun v hv => e2 v (hp.mem_iff.mp hv)
    obtain ⟨ep, he'⟩ := he
    have hl2 : (M.map (·.1)).length ≤ sizeLine := by
      rw [List.length_map, pM.length_eq]
      rw [List.length_map] at hz
      exact hz
    exact ⟨.ref _, upd H (s.heap.objs.size + 1) (.lst (M.map (·.1))), I.laid (t' := s.toks) kg (Nat.le_succ _) ⟨hl2, out, ep, vM, he'⟩, rfl, q M _ pM sM (I.hok.fresh (Nat.le_succ _))⟩
end FL

noncomputable section
namespace FL
open PySem PySem.Spec PyProof.Rows L2 EP
variable {K : PySem.W.Frag}
theorem inl_inj : ∀ {a b : List Int}, a.map (Sum.inl (β := List Nat)) = b.map Sum.inl → a = b
  | [], [], _ => rfl
  | [], _ :: _, h => by cases h
  | _ :: _, [], h => by cases h
  | x :: a, y :: b, h => by
    rw [List.map_cons, List.map_cons, List.cons.injEq] at h
    rw [inl_inj h.2, Sum.inl.inj h.1]
theorem lexI_total {a b : List Int} (h : lexI a b = false) (g : lexI b a = false) : a = b := by
  rw [← lex_inl] at h g
  exact inl_inj (lex_total _ _ h g)
theorem lexI_self (a : List Int) : lexI a a = false := by
  rw [← lex_inl]; exact lex_irrefl _
theorem lexI_trans {a b c : List Int} (h : lexI a b = true) (g : lexI b c = true) : lexI a c = true := by
  rw [← lex_inl] at h g ⊢
  exact lex_trans _ _ _ h g
theorem lexI_le {a b c : List Int} (h : lexI b a = false) (g : lexI c b = false) : lexI c a = false := by
  cases e : lexI c a with
  | false => rfl
  | true =>
    rw [← lex_inl] at h g e
    rcases lex_negTrans _ (b.map Sum.inl) _ e with z | z
    · rw [z] at g; cases g
    · rw [z] at h; cases h
theorem lexI_asymm {a b : List Int} (h : lexI a b = true) : lexI b a = false := by
  cases e : lexI b a with
  | false => rfl
  | true =>
    have := lexI_trans h e
    rw [lexI_self] at this
    cases this
def sortTI (ts : List (List Int)) : List (List Int) := ts.mergeSort fun a b => !lexI b a
theorem sortTI_spec (ts : List (List Int)) : (sortTI ts).Perm ts ∧ (sortTI ts).Pairwise fun a b => lexI b a = false := by
  refine ⟨List.mergeSort_perm _ _, ?_⟩
  have h := List.pairwise_mergeSort (le := fun a b : List Int => !lexI b a) (fun a b c h1 h2 => by
    rw [Bool.not_eq_true'] at *
    exact lexI_le h1 h2) (fun a b => by
    cases e : lexI b a with
    | false => rfl
    | true => rw [lexI_asymm e]; rfl) ts
  exact h.imp fun h => by rw [Bool.not_eq_true'] at h; exact h
theorem lex_uniq {xs ys : List (List Int)} (p : xs.Perm ys) (a : xs.Pairwise fun a b => lexI b a = false) (b : ys.Pairwise fun a b => lexI b a = false) : xs = ys :=
  p.eq_of_pairwise (fun _ _ _ _ h1 h2 => lexI_total h2 h1) a b
theorem sortTI_of {xs ys : List (List Int)} (p : xs.Perm ys) (a : xs.Pairwise fun a b => lexI b a = false) : sortTI ys = xs := by
  obtain ⟨p2, s2⟩ := sortTI_spec ys
  exact lex_uniq (p2.trans p.symm) s2 a
def tupI (ns : List Int) : D := .tuple (ns.map PyData.int)
def tupsO : List D → Option (List (List Int))
  | [] => some []
  | .tuple xs :: r => (intsO xs).bind fun ns => (tupsO r).map fun ts => ns :: ts
  | _ :: _ => none
theorem tupsO_map : ∀ ts : List (List Int), tupsO (ts.map tupI) = some ts
  | [] => rfl
  | t :: ts => by
    have ih := tupsO_map ts
    show tupsO (.tuple (t.map PyData.int) :: ts.map tupI) = _
    simp [tupsO, intsO_map, ih]
theorem tups_some : ∀ {ds : List D} {ts : List (List Int)}, tupsO ds = some ts → ds = ts.map tupI
  | [], ts, h => by cases h; rfl
  | d :: r, ts, h => by
    cases d with
    | tuple xs =>
      have h : ((intsO xs).bind fun ns => (tupsO r).map fun ts => ns :: ts) = some ts := h
      obtain ⟨ns, e1, h⟩ := Option.bind_eq_some_iff.mp h
      obtain ⟨ts', e2, h⟩ := Option.map_eq_some_iff.mp h
      cases h
      rw [ints_some e1, tups_some e2]; rfl
    | _ => cases h
def sortXF : F1 := fun ds => match ds with
  | [.list a] => match intsO a with
    | some ns => some (.list ((sortI ns).map PyData.int))
    | none => (tupsO a).bind fun ts => if (ts.length < 2 || ts.all fun t => !t.isEmpty) = true then some (.list ((sortTI ts).map tupI)) else none
  | [.tuple a] => (intsO a).map fun ns => .list ((sortI ns).map PyData.int)
  | _ => none
def rSortX (K : PySem.W.Frag) : List V → Hp → VK → Prop := fun vs H Q => rSortA K vs H Q ∨ rSortTs K vs H Q
theorem cr_sortX {X : Cx} : CallR X (.builtin "sorted") (rSortX X.K) := by
  intro pins s σ H vs us Q I r h
  rcases h with h | h
  · exact cr_sortA pins s σ H vs us Q I r h
  · exact cr_sortTs pins s σ H vs us Q I r h
theorem dvA_of {α : Type} {H : Hp} {S : Addr → Prop} (f : α → V) (g : α → D) : ∀ {L : List α}, (∀ p ∈ L, Dv K H S (f p) (g p)) → DvA K H S (L.map f) (L.map g)
  | [], _ => .nil
  | p :: L, h => .cons (h p List.mem_cons_self) (dvA_of f g fun q hq => h q (List.mem_cons_of_mem _ hq))
theorem cn_sortX : CN K (rSortX K) sortXF := ⟨fun fr H S al vs ds hx d e Q q => by
  unfold sortXF at e
  split at e
  · rename_i a
    cases ei : intsO a with
    | some ns =>
      rw [ei] at e
      have e9 : sortAF [.list a] = some d := by
        show (intsO a).map (fun ns => PyData.list ((sortI ns).map PyData.int)) = some d
        rw [ei]; exact e
      exact .inl (cn_sortA.go fr H S al vs _ hx d e9 Q q)
    | none =>
      rw [ei] at e
      obtain ⟨ts, et, e⟩ := Option.bind_eq_some_iff.mp e
      split at e
      · rename_i c
        cases e
        obtain ⟨v, rfl, h⟩ := dbA1 hx
        obtain ⟨p, xs, rfl, ep, rp⟩ := h.list
        have ea := tups_some et
        subst ea
        have ln : xs.length = ts.length := by rw [rp.length, List.length_map]
        have each : ∀ z ∈ xs.zip ts, Dv K H S z.1 (tupI z.2) := fun z hz => by
          obtain ⟨i, hi, rfl⟩ := List.mem_iff_getElem.mp hz
          rw [List.getElem_zip]
          rw [List.length_zip] at hi
          have hi2 : i < ts.length := by omega
          obtain ⟨v, ev, dv⟩ := rp.get (i := i) (d := tupI ts[i]) (by rw [List.getElem?_map, List.getElem?_eq_getElem hi2]; rfl)
          have : xs[i] = v := by
            rw [List.getElem?_eq_getElem (by omega)] at ev
            exact Option.some.inj ev
          rw [this]; exact dv
        have f1 : (xs.zip ts).map Prod.fst = xs := List.map_fst_zip (by omega)
        have f2 : (xs.zip ts).map Prod.snd = ts := List.map_snd_zip (by omega)
        refine .inr ⟨p, xs.zip ts, rfl, by rw [f1]; exact sqL ep, fun z hz => ?_, fun l2 z hz => ?_, fun M l pm so hl => ?_⟩
        · have dv := each z hz
          unfold tupI at dv
          generalize z.1 = zv at *
          cases dv with
          | tup e r => 
            rw [dvInts r] at e
            exact ⟨_, rfl, e.sq⟩
        · have hm : z.2 ∈ ts := by
            rw [← f2]; exact List.mem_map_of_mem hz
          have l3 : ts.length = (xs.zip ts).length := by rw [List.length_zip]; omega
          rw [Bool.or_eq_true] at c
          rcases c with c | c
          · have := of_decide_eq_true c
            omega
          · rw [List.all_eq_true] at c
            have := c _ hm
            intro z0
            rw [z0] at this
            cases this
        · have e3 : sortTI ts = M.map Prod.snd := by
            refine sortTI_of ?_ (List.pairwise_map.mpr so)
            have := pm.map Prod.snd
            rw [f2] at this
            exact this
          rw [e3, List.map_map] at q
          exact q _ _ (upN hl) (dnNew al hl (dvA_of Prod.fst (tupI ∘ Prod.snd) fun z hz => each z (pm.mem_iff.mp hz)))
      · cases e
  · rename_i a
    have e9 : sortAF [.tuple a] = some d := e
    exact .inl (cn_sortA.go fr H S al vs _ hx d e9 Q q)
  · cases e⟩
theorem sortXF_l (ns : List Int) : sortXF [.list (ns.map PyData.int)] = some (.list ((sortI ns).map PyData.int)) := by
  simp [sortXF, intsO_map]
theorem sortXF_t (ns : List Int) : sortXF [.tuple (ns.map PyData.int)] = some (.list ((sortI ns).map PyData.int)) := by
  simp [sortXF, intsO_map]
theorem sortXF_ts {ts : List (List Int)} (h0 : ts ≠ []) (h : ts.length < 2 ∨ ∀ t ∈ ts, t ≠ []) : sortXF [.list (ts.map tupI)] = some (.list ((sortTI ts).map tupI)) := by
  have e1 : intsO (ts.map tupI) = none := by
    cases ts with
    | nil => exact absurd rfl h0
    | cons t r => rfl
  have e2 := tupsO_map ts
  have c : (decide (ts.length < 2) || ts.all fun t => !t.isEmpty) = true := by
    rw [Bool.or_eq_true]
    rcases h with h | h
    · exact .inl (decide_eq_true h)
    · right
      rw [List.all_eq_true]
      intro t ht
      have := h t ht
      cases t with
      | nil => exact absurd rfl this
      | cons _ _ => rfl
  simp only [sortXF, e1, e2, Option.bind_some]
  rw [if_pos c]
theorem sortXF_nil : sortXF [.list []] = some (.list []) := by
  have h := sortXF_l []
  rw [show sortI [] = [] from List.length_eq_zero_iff.mp (sortI_spec []).1.length_eq] at h
  exact h
end FL

noncomputable section
namespace FL
open PySem PySem.Spec PyProof.Rows L2 EP
variable {K : PySem.W.Frag}
/-! ### a, b = divmod(x, y): the tuple is no data, it is taken apart at once -/
structure WF (K : PySem.W.Frag) (t : TE) (f : Ex) : Prop where
  go : ∀ (fr : Fm) (σ : L2.St) (H : Hp) (ρ : En) (π : Pot), Rel K fr σ H ρ π → ∀ d π', f ρ π = some (d, π') → ∀ Q : VK,
    (∀ v H', Rel K fr σ H' ρ π' → ChgP fr H H' → Dx K true H' (wd fr σ ρ H').S v d → Q v H') → t σ H Q
theorem wf_divmod {t : TA} {a : Ax} (h : AB K t a) : WF K (tCB (fun xs H Q => ∃ i j, xs = [.int i, .int j] ∧ CDiv i j ∧ ∀ p, H p = none → Q (.ref p) (upd H p (.tup [.int (i / j), .int (i % j)]))) t) (xCb divmodF a) := by
  refine ⟨fun fr σ H ρ π R d π' e Q q => ?_⟩
  obtain ⟨ds, ea, ed⟩ := xCb_some e
  refine h.go fr σ H ρ π R ds π' ea _ fun vs H1 R1 c1 dv => ?_
  unfold divmodF at ed
  split at ed
  · split at ed
    · rename_i c
      cases ed
      obtain ⟨v, w, rfl, h1, h2⟩ := dbA2 dv
      obtain rfl := h1.int
      obtain rfl := h2.int
      refine ⟨_, _, rfl, c, fun p hp => ?_⟩
      exact q _ _ (R1.kp (upN hp)) (c1.trans (.of (upN hp))) (dxTup hp (.cons (.int _) (.cons (.int _) .nil)))
    · cases ed
  · cases ed
theorem sf_asgW {nw : Bool} {te : TE} {tg : TG} {f : Ex} {vs : List Nat} {g : Gx} (h : WF K te f) (hg : GF K true vs tg g) : SF K nw (tAsg te tg) (sAsg f g) := by
  refine ⟨fun fr σ H ρ π R ρ' π' o e D q => ?_⟩
  unfold sAsg at e
  cases ef : f ρ π with
  | none => rw [ef] at e; cases e
  | some x =>
    rw [ef] at e
    simp only [Option.bind_some] at e
    cases eg : g x.1 ρ with
    | none => rw [eg] at e; cases e
    | some y =>
      rw [eg] at e
      cases e
      refine h.go fr σ H ρ π R x.1 x.2 ef _ fun v H' R' c b => ?_
      exact hg.go fr σ H' ρ x.2 R' v x.1 b ρ' eg _ fun σ' R2 s2 _ _ => q σ' H' R2 ((c.step σ ρ).trans R.us s2)
/-! ### sorted(xs, reverse=True) of whole numbers -/
def sortRF : F1 := fun ds => match ds with
  | [.list a] => (intsO a).map fun ns => .list ((sortI ns).reverse.map PyData.int)
  | _ => none
theorem nf_sortR {t : TA} {a : Ax} (h : AB K t a) : NF K (tCKw (rSortedKw K true [.bl true]) t (tCons (tC (.bl true)) tNil)) (xCb sortRF a) := by
  refine ⟨fun fr σ H ρ π R d π' e Q q => ?_⟩
  obtain ⟨ds, ea, ed⟩ := xCb_some e
  refine h.go fr σ H ρ π R ds π' ea _ fun vs H1 R1 c1 dv => ?_
  unfold sortRF at ed
  split at ed
  · rename_i b
    obtain ⟨ns, ei, ed⟩ := Option.map_eq_some_iff.mp ed
    cases ed
    obtain ⟨v, rfl, hx⟩ := dbA1 dv
    obtain ⟨p, xs, rfl, ep, rp⟩ := hx.list
    rw [ints_some ei] at rp
    obtain rfl := dvInts rp
    refine ⟨p, ns, rfl, rfl, sqL ep, fun ms l pm so hl => ?_⟩
    obtain ⟨p2, s2⟩ := sortI_spec ns
    have so : ms.Pairwise (· ≥ ·) := so
    have e3 : ms = (sortI ns).reverse := by
      have : ms.reverse = sortI ns := perm_sorted_uniq ((List.reverse_perm ms).trans (pm.trans p2.symm)) (List.pairwise_reverse.mpr so) s2
      rw [← this, List.reverse_reverse]
    rw [e3]
    exact q _ _ (R1.kp (upN hl)) (c1.trans (.of (upN hl))) ((dnNew R1.sA hl (intsDv _)).back fun p h => R1.back c1 h)
  · cases ed
theorem sortRF_l (ns : List Int) : sortRF [.list (ns.map PyData.int)] = some (.list ((sortI ns).reverse.map PyData.int)) := by
  simp [sortRF, intsO_map]
end FL

noncomputable section
namespace FL
open PySem PySem.Spec PyProof.Rows L2 EP
variable {K : PySem.W.Frag}
/-! ### t * 1 is the tuple itself -/
theorem tuple_mul_same (l : Addr) (items : Array Value) (n : Nat) (dd : Option Addr) (sl : Array (Option Value)) (x : Int) (u : Tok) (c0 : (decide (x < -(2 ^ 63)) || decide (x ≥ 2 ^ 63)) = false) (c1 : (items.isEmpty || x == 1) = true) :
    Meets (Builtin.«tuple.__mul__» ⟨[.ref l, .int x u], []⟩) (fun _ R s => s.heap.get? l = some { cls := .type "tuple", dict := dd, data := .seq items n, slots := sl } ∧
      R (.ok (.ret (Value.ref l))) s) :=
  .of_wp fun prog w A R s h => by
    obtain ⟨hp, g, d, tk, os⟩ := s
    obtain ⟨hl, h⟩ := h
    have f1 := AutoSeq1.idx_int
    wp_walk using wpAny_loadPart' hl
    repeat (first
      | (refine wpAny_ite_false (decide_eq_false (by rw [c0]; exact Bool.false_ne_true)) ?_; wp_walk using wpAny_loadPart' hl)
      | (refine wpAny_ite_true (decide_eq_true (by rw [c1])) ?_; wp_walk using wpAny_loadPart' hl))
    exact ⟨_, rfl, h⟩
def rRep1 (K : PySem.W.Frag) : R2 := fun x y H Q => ∃ l xs, x = .ref l ∧ y = .int 1 ∧ SqT K H l xs ∧ Q (.ref l) H
theorem op_rep1 {X : Cx} : OpR X (binaryOp .Mult) (rRep1 X.K) := by
  intro pins s σ H x y v u Q I rx ry h
  obtain ⟨l, xs, rfl, rfl, tu, q⟩ := h
  cases rx
  obtain ⟨tk, rfl⟩ := ry
  obtain ⟨its, rv, ⟨⟨cls, dct, dat, slo⟩, at1, ec, n1, ed⟩, _⟩ := I.tuple tu
  simp only at ec ed
  subst ec ed
  have W := tuple_mul_same l its.toArray n1 dct slo 1 tk (by decide) (by simp)
  refine wpAny_binaryOp_repeat_ref (T := "tuple") (U := "int") (by decide) ⟨_, at1, rfl⟩ (fun r => typeIs_int r 1 tk) noFill_tuple_mul F.fills_int_mul F.slot_int_rmul repeat_tuple F.slot_int_index.lookup ?_
  refine call_meets F.slot_int_rmul (typeIs_int s 1 tk) F.entry_int_rmul (F.args_int_rmul_2 _ _) (int_rmul_tuple 1 tk l its.toArray n1 dct slo) ⟨at1, rfl, ⟨_, at1, rfl⟩, ?_⟩
  refine call_meets F.slot_tuple_mul ⟨_, at1, rfl⟩ F.entry_tuple_mul (F.args_tuple_mul_2 _ _) W ⟨at1, ?_⟩
  exact ⟨.ref l, H, I, rfl, q⟩
def mul1F : F2 := fun x y => match x, y with
  | .tuple a, .int k => if k = 1 then some (.tuple a) else mulF (.tuple a) (.int k)
  | x, y => mulF x y
def rMul1 (K : PySem.W.Frag) : R2 := fun x y H Q => rMulA K x y H Q ∨ rRep1 K x y H Q
theorem op_mul1 {X : Cx} : OpR X (binaryOp .Mult) (rMul1 X.K) := op_mulA.or op_rep1
theorem of_mul1 : OF K (rMul1 K) mul1F := ⟨fun fr H S al x y dx dy hx hy d e Q q => by
  unfold mul1F at e
  split at e
  · split at e
    · rename_i c
      cases e
      subst c
      obtain ⟨p, xs, rfl, ep, rp⟩ := hx.tuple
      obtain rfl := hy.int
      exact .inr ⟨p, xs, rfl, rfl, ep.sq, q _ H (Kp.refl _) (.tup ep rp)⟩
    · exact .inl (of_mulA.go fr H S al x y _ _ hx hy d e Q q)
  · exact .inl (of_mulA.go fr H S al x y _ _ hx hy d e Q q)⟩
theorem mul1_tup (p : Int) {k : Nat} (h1 : 1 ≤ k) (h2 : k ≤ 1000) : mul1F (.tuple [.int p]) (.int (k : Nat)) = some (.tuple (List.replicate k (.int p))) := by
  unfold mul1F
  by_cases c : k = 1
  · subst c; rfl
  · have : (List.replicate k [PyData.int p]).flatten = List.replicate k (.int p) := by
      clear h1 h2 c
      induction k with
      | zero => rfl
      | succ k ih => rw [List.replicate_succ, List.flatten_cons, ih, List.replicate_succ]; rfl
    show (if (k : Int) = 1 then _ else mulF (.tuple [.int p]) (.int (k : Nat))) = _
    rw [if_neg (by omega)]
    show (if _ then some (PyData.tuple (List.replicate (k : Int).toNat [PyData.int p]).flatten) else none) = _
    rw [if_pos ⟨by simp, by omega, by omega, by simp⟩, Int.toNat_natCast, this]
end FL

noncomputable section
namespace FL
open PySem PySem.Spec PyProof.Rows L2 EP
variable {K : PySem.W.Frag}
/-! ### tuple(range(a, b, -1)) -/
def dnV (i : Int) (n : Nat) : List V := (List.range n).map fun k => V.int (i - (k : Nat))
def PRgD (X : Cx) (e : Expr) (t : L2.St → Hp → (Int → Int → Hp → Prop) → Prop) : Prop :=
  ∀ (pins : List (Addr × Obj)) (s : Shared) (σ : L2.St) (H : Hp) (Q : Int → Int → Hp → Prop), Inv X pins σ H s → t σ H Q →
    wpAny (model X.prog X.w) X.A (eval e X.env) (fun x s' => ∃ r a b t u v H', x = .ref r ∧ IsRange s'.heap r a b (-1) t u v ∧ Inv X pins σ H' s' ∧ Q a b H') X.xe s
def tRg3D (ta : TA) : L2.St → Hp → (Int → Int → Hp → Prop) → Prop := fun σ H Q => ta σ H fun vs H1 => ∃ i j, vs = [.int i, .int j, .int (-1)] ∧ Q i j H1
theorem prg_3d {X : Cx} {a b c : Expr} {ta : TA} {p pos : Pos} (hg : Gl X "range") (hm : X.mg "range" = none) (ha : PA X [a, b, c] ta)
    (hs : starEach [a, b, c] X.env = (false, eval a X.env) :: starEach [b, c] X.env := by rfl) (hpl : (backTo pos (starEach [b, c] X.env)).any (·.1) = false := by rfl) :
    PRgD X (.Call (.Name "range" p) [a, b, c] [] pos) (tRg3D ta) := by
  intro pins s σ H Q I h
  refine Call_ (ld_blt I hg hm boot_range (PyProof.Rows.callWith_type1 (thn (ha.run pos pins s σ H _ I h) fun us s1 ⟨vs, H1, I1, r1, q1⟩ => ?_) hs hpl))
  obtain ⟨i, j, e, q⟩ := q1
  subst e
  cases r1 with
  | cons r rr =>
    cases rr with
    | cons r' rr =>
      cases rr with
      | cons r'' rr =>
        cases rr
        obtain ⟨t, rfl⟩ := r
        obtain ⟨t', rfl⟩ := r'
        obtain ⟨t'', rfl⟩ := r''
        refine call_range_3 (by decide) ?_ (.inl (PyProof.noPylong_small (by decide)))
        have I2 : Inv X pins σ H1 { s1 with heap := s1.heap.push { cls := .type "range", data := .fields #[.int i t, .int j t', .int (-1) t''] } } := I1.kept (t' := s1.toks) fun b o e => Heap.get?_push_of_some _ e
        exact ⟨_, i, j, t, t', t'', H1, rfl, IsRange.new .., I2, q⟩
theorem vals_dn {i : Int} {n : Nat} {acc : Array Value} (h : ItemsOf (fun k v => ∃ t, v = .int (i + k * (-1)) t) acc n) : Vals (dnV i n) acc.toList := by
  have e : acc.toList.length = n := by rw [Array.length_toList]; exact h.1
  unfold dnV
  rw [← e]
  have key := vals_of_get acc.toList (fun k : Nat => V.int (i - (k : Nat))) fun j u hj => by
    obtain ⟨t, rfl⟩ := h.2 j u (by rw [← hj, Array.getElem?_toList])
    exact ⟨t, by rw [Int.mul_neg, Int.mul_one]; rfl⟩
  exact key
def tTupDn (te : L2.St → Hp → (Int → Int → Hp → Prop) → Prop) : TE := fun σ H Q => te σ H fun a b H1 => RgOk b a ∧ NwT H1 (dnV a (a - b).toNat) Q
theorem pe_tupDn {X : Cx} {e : Expr} {te : L2.St → Hp → (Int → Int → Hp → Prop) → Prop} {p pos : Pos} (hc : X.calm = true) (hg : Gl X "tuple") (hm : X.mg "tuple" = none) (he : PRgD X e te) (na : starEach [e] X.env = (false, eval e X.env) :: starEach [] X.env := by rfl) :
    PE X (.Call (.Name "tuple" p) [e] [] pos) (tTupDn te) := by
  refine ⟨fun pins s σ H Q I h => Call_ (ld_blt I hg hm boot_tuple (PyProof.Rows.callWith_type1 (args_cons (thn (he pins s σ H _ I h) fun x s1 w => args_nil ?_) na) na))⟩
  obtain ⟨r, a, b, t, u, v, H1, rfl, hr, I1, ⟨b1, b2, b3, b4, b5⟩, q⟩ := w
  refine call_tuple_range (n := (a - b).toNat) (I1.ok.hd hc) hr (PySem.W.small_down b3 b4 b1 b2) (PySem.W.rangeSize_downNat a b) b5 fun g tk acc hk hi => ?_
  have := laidT (s := s1) (tk := tk) (h' := g) (us := acc.toList) (I1.kept hk) (vals_dn hi) (by unfold dnV; rw [List.length_map, List.length_range, sizeLine_eq]; omega) q
  rwa [Array.toArray_toList] at this
def dnD (i : Int) (n : Nat) : List D := (List.range n).map fun k => PyData.int (i - (k : Nat))
def xDn (a : Ax) : Ex := fun ρ π => (a ρ π).bind fun x => match x.1 with
  | [.int i, .int j, .int k] => if k = -1 ∧ rgOk i = true ∧ rgOk j = true ∧ (i - j).toNat ≤ 100000 then some (.tuple (dnD i (i - j).toNat), x.2) else none
  | _ => none
theorem dvA_dn {H : Hp} {S : Addr → Prop} (i : Int) (n : Nat) : DvA K H S (dnV i n) (dnD i n) := by
  unfold dnV dnD
  have : ∀ l : List Nat, DvA K H S (l.map fun k => V.int (i - (k : Nat))) (l.map fun k => PyData.int (i - (k : Nat))) := fun l => by
    induction l with
    | nil => exact .nil
    | cons k l ih => exact .cons (.int _) ih
  exact this _
theorem ef_tupDn {t : TA} {a : Ax} (h : AB K t a) : EF K (tTupDn (tRg3D t)) (xDn a) := by
  refine ⟨fun fr σ H ρ π R d π' e Q q => ?_⟩
  unfold xDn at e
  obtain ⟨x, ea, e⟩ := Option.bind_eq_some_iff.mp e
  split at e
  · rename_i i j k hx
    split at e
    · rename_i c
      obtain ⟨rfl, c1, c2, c3⟩ := c
      cases e
      refine h.go fr σ H ρ π R x.1 x.2 ea _ fun vs H1 R1 ch b => ?_
      rw [hx] at b
      obtain ⟨u, v, w, rfl, b1, b2, b3⟩ : ∃ u v w, vs = [u, v, w] ∧ Db K fr H1 (wd fr σ ρ H1).S u (.int i) ∧ Db K fr H1 (wd fr σ ρ H1).S v (.int j) ∧ Db K fr H1 (wd fr σ ρ H1).S w (.int (-1)) := by
        match vs, b with
        | [u, v, w], b => exact ⟨u, v, w, rfl, b.1, b.2.1, b.2.2.1⟩
      obtain rfl := b1.int
      obtain rfl := b2.int
      obtain rfl := b3.int
      have d1 := of_cdec c1
      have d2 := of_cdec c2
      exact ⟨i, j, rfl, ⟨d2.1, d2.2, d1.1, d1.2, by omega⟩, fun p o hp ty => q _ _ (R1.kp (upN hp)) (ch.trans (.of (upN hp))) (dvTup R1.sA hp ty (dvA_dn i _))⟩
    · cases e
  · cases e
end FL

noncomputable section
namespace FL
open PySem PySem.Spec PyProof.Rows L2 EP
variable {K : PySem.W.Frag}
/-! ### isinstance(x, (A, B)) -/
@[simp] def xIsi2 (A B : String) (a : FL.Ex) : FL.Ex := fun ρ π => (a ρ π).map fun x => (.bool (isiB A x.1 || isiB B x.1), x.2)
theorem ef_isi2 {A B : String} {t : TE} {a : FL.Ex} (hA : IsiT A) (hB : IsiT B) (h : BF K t a) : EF K (tCB (rIsiT K) (tCons t (tCons (tTup (tCons (tC (.ty A)) (tCons (tC (.ty B)) tNil))) tNil))) (xIsi2 A B a) := by
  refine ⟨fun fr σ H ρ π R d π' e Q q => ?_⟩
  unfold xIsi2 at e
  cases ea : a ρ π with
  | none => rw [ea] at e; cases e
  | some x =>
    rw [ea] at e
    cases e
    refine h.go fr σ H ρ π R x.1 x.2 ea _ fun v H' R' c b => ?_
    refine ⟨by show 2 ≤ sizeLine; rw [sizeLine_eq]; decide, fun T hT => ?_⟩
    have k := upN (o := .tup [.ty A, .ty B]) hT
    have b2 := b.chg R' (.of k)
    refine ⟨v, T, [.ty A, .ty B], .type (tyName x.1), [.type A, .type B], _, rfl, upd_same, .cons (.ty A) (.cons (.ty B) .nil), b2.ty, ?_, q _ _ (R'.kp k) (c.trans (.of k)) (.bl (isiB A x.1 || isiB B x.1))⟩
    refine kitAny_cons (kit_ty (hA x.1)) (fun hb => ?_) (fun hb => by rw [hb]; rfl)
    refine kitAny_cons (kit_ty (hB x.1)) (fun hc => ?_) (fun hc => by rw [hc, Bool.or_true])
    rw [hb, hc]
    rfl
end FL


noncomputable section
namespace FL
open PySem PySem.Spec PyProof.Rows L2 EP
/-! ### zip of a list or a tuple with a list or a tuple, as they come (true: a tuple) -/
def QK (K : PySem.W.Frag) : Bool → Hp → Addr → List V → Prop
  | true => SqT K
  | false => SqL K
def HK : Bool → Heap → Addr → Array Value → Prop
  | true => fun h a its => h.IsTuple a its
  | false => fun h a its => h.IsList a its
def IK : Bool → Heap → Addr → Addr → Nat → Prop
  | true => fun h it a i => h.IsTupleIter it a i
  | false => fun h it a i => h.IsListIter it a i
theorem IK.keep {k : Bool} {h h' : Heap} {it a : Addr} {i : Nat} (q : IK k h it a i) (f : ∀ o, h.get? it = some o → h'.get? it = some o) : IK k h' it a i := by
  cases k with
  | true => exact Heap.IsTupleIter.at q f
  | false => exact Heap.IsListIter.at q f
theorem IK.obj {k : Bool} {h : Heap} {it a : Addr} {i : Nat} (q : IK k h it a i) : ∃ o, h.get? it = some o ∧ ∀ v, o.data ≠ .cell v := by
  cases k with
  | true =>
    obtain ⟨o, e, _, d⟩ := q
    exact ⟨o, e, fun v z => by rw [d] at z; cases z⟩
  | false =>
    obtain ⟨o, e, _, d⟩ := q
    exact ⟨o, e, fun v z => by rw [d] at z; cases z⟩
section
variable {X : Cx} {pins : List (Addr × Obj)} {σ : L2.St} {H : Hp} {s : Shared}
theorem qk_heap {k : Bool} (I : Inv X pins σ H s) {a : Addr} {xs : List V} (q : QK X.K k H a xs) : ∃ its : List Value, Vals xs its ∧ HK k s.heap a its.toArray ∧ a < s.heap.objs.size := by
  cases k with
  | true =>
    obtain ⟨its, r, p, _⟩ := I.tuple q
    obtain ⟨o, e, _⟩ := id p
    exact ⟨its, r, p, Heap.lt_size e⟩
  | false =>
    obtain ⟨its, r, p, _⟩ := I.list q
    exact ⟨its, r, p.isList, p.lt⟩
theorem hk_draws {prog : Program} {w : World} {A : Around} (hh : A.handled = none) (k : Bool) (it a : Addr) (ne : a ≠ it) (items : Array Value) :
    Draws prog w A it [it, a] items.size (fun i v => items[i]? = some v) (fun i h => IK k h it a i ∧ HK k h a items) := by
  cases k with
  | true => exact Draws.tuple hh it a ne items
  | false => exact Draws.list hh it a ne items
theorem hk_begins (k : Bool) (a : Addr) (items : Array Value) : ∃ o, Begins (.ref a) o (fun h => HK k h a items) ∧ ∀ h it, h.get? it = some o → IK k h it a 0 := by
  cases k with
  | true => exact ⟨_, begins_tuple a items, fun h it e => ⟨_, e, rfl, rfl⟩⟩
  | false => exact ⟨_, begins_list a items, fun h it e => ⟨_, e, rfl, rfl⟩⟩
end
/-- both as they stood at the start -/
def ItzM (K : PySem.W.Frag) (k l : Bool) (a b : Addr) (xs ys : List V) : It :=
  ⟨fun i H => (QK K k H a xs ∧ QK K l H b ys) ∧ i < xs.length ∧ i < ys.length,
    fun i H v H' => ∃ T x y, xs[i]? = some x ∧ ys[i]? = some y ∧ v = .ref T ∧ H T = none ∧ H' = upd H T (.tup [x, y]),
    fun i H => (QK K k H a xs ∧ QK K l H b ys) ∧ (xs.length ≤ i ∨ ys.length ≤ i)⟩
theorem turnM {P : Program} {w : World} {K : PySem.W.Frag} {elts : List Expr} {kk : Nat} {tpos : Pos} {k l : Bool} {a b z TI TO i1 i2 : Addr} {xs ys : List V} (D : ZipSep2 z TI TO i1 i2 [i1, a] [i2, b]) (n1 : a ≠ i1) (n2 : b ≠ i2) :
    Turn P w K (.Tuple elts kk tpos) (ItzM K k l a b xs ys) [z, TI, TO, i1, i2] z (fun i h => (IsZip h z TI TO .none ∧ IsTupOf2 h TI (.ref i1) (.ref i2) ∧ (∃ x y, IsTupOf2 h TO x y)) ∧ (IK k h i1 a i ∧ IK l h i2 b i) ∧ i ≤ xs.length ∧ i ≤ ys.length) where
  mem := List.mem_cons_self
  obj := fun i h ⟨⟨hz, hTI, ⟨x, y, hTO⟩⟩, ⟨h1, h2⟩, _⟩ c hc => by
    simp only [List.mem_cons, List.not_mem_nil, or_false] at hc
    rcases hc with rfl | rfl | rfl | rfl | rfl
    · exact ⟨_, hz, fun v e => nomatch e⟩
    · exact ⟨_, hTI, fun v e => nomatch e⟩
    · exact ⟨_, hTO, fun v e => nomatch e⟩
    · exact h1.obj
    · exact h2.obj
  keep := fun i h h' ⟨⟨hz, hTI, ⟨x, y, hTO⟩⟩, ⟨h1, h2⟩, le⟩ f =>
    ⟨⟨f z (by simp) _ hz, f TI (by simp) _ hTI, x, y, f TO (by simp) _ hTO⟩, ⟨h1.keep (f i1 (by simp)), h2.keep (f i2 (by simp))⟩, le⟩
  item := fun X hP hw hK hc i pins s σ H E I hf st hg => by
    subst hP hw hK
    obtain ⟨⟨hz, hTI, ⟨x0, y0, hTO⟩⟩, ⟨h1, h2⟩, le1, le2⟩ := st
    obtain ⟨⟨q1, q2⟩, l1, l2⟩ := hg
    obtain ⟨is1, v1, p1, _⟩ := qk_heap I q1
    obtain ⟨is2, v2, p2, _⟩ := qk_heap I q2
    have z1 : is1.toArray.size = xs.length := by rw [List.size_toArray, v1.length]
    have z2 : is2.toArray.size = ys.length := by rw [List.size_toArray, v2.length]
    have hd : X.A.in1.handled = none := I.ok.hd hc
    have zl : z < s.heap.objs.size := Heap.lt_size hz
    refine wpAny_pyNext_zipD2_item D (hk_draws hd k i1 a n1 is1.toArray) (hk_draws hd l i2 b n2 is2.toArray) hz hTI hTO ⟨h1, p1⟩ ⟨h2, p2⟩ (by rw [z1]; exact l1) (by rw [z2]; exact l2) fun u1 u2 h' tk e1 e2 z' TO' s1' s2' T' hsz hk => ?_
    refine ⟨_, rfl, wpAny_letOwnedTupleGo_zip (s := { s with heap := h', toks := tk }) z' fun h'' z'' sb => ?_⟩
    have T2 : IsTupOf2 h'' s.heap.objs.size u1 u2 := (sb.2 _ (Nat.ne_of_gt zl)).trans T'
    obtain ⟨x, ex⟩ : ∃ x, xs[i]? = some x := ⟨_, List.getElem?_eq_getElem l1⟩
    obtain ⟨y, ey⟩ : ∃ y, ys[i]? = some y := ⟨_, List.getElem?_eq_getElem l2⟩
    obtain ⟨w1, f1, r1⟩ := v1.get ex
    obtain ⟨w2, f2, r2⟩ := v2.get ey
    have g1 : is1[i]? = some u1 := by simpa using e1
    have g2 : is2[i]? = some u2 := by simpa using e2
    rw [f1] at g1
    rw [f2] at g2
    cases g1
    cases g2
    have mem5 : ∀ c : Addr, c ∉ [z, TI, TO, i1, i2] → c ≠ z ∧ c ≠ TI ∧ c ≠ TO ∧ c ≠ i1 ∧ c ≠ i2 := fun c h => by simpa [not_or] using h
    have new : ObjOk X.prog X.w (upd H s.heap.objs.size (.tup [x, y])) h'' s.heap.objs.size (.tup [x, y]) := ⟨by show 2 ≤ sizeLine; decide, [u1, u2], .cons r1 (.cons r2 .nil), ⟨_, T2, rfl, _, rfl⟩⟩
    have I1 : Inv X pins σ (upd H s.heap.objs.size (.tup [x, y])) { s with heap := h'', toks := tk } :=
      I.turnedNew (t' := tk) (ch := [z, TI, TO, i1, i2]) (fun c o hb q => by
        obtain ⟨a1, a2, a3, a4, a5⟩ := mem5 c hb
        exact (sb.2 c a1).trans (hk c o a1 a3 a4 a5 q)) hf (Nat.le_refl _) new
    have lt : ∀ c ∈ [z, TI, TO, i1, i2], c < s.heap.objs.size := fun c hc => by
      simp only [List.mem_cons, List.not_mem_nil, or_false] at hc
      rcases hc with rfl | rfl | rfl | rfl | rfl
      · exact zl
      · exact Heap.lt_size hTI
      · exact Heap.lt_size hTO
      · obtain ⟨_, e, _⟩ := h1.obj; exact Heap.lt_size e
      · obtain ⟨_, e, _⟩ := h2.obj; exact Heap.lt_size e
    refine ⟨.ref s.heap.objs.size, _, I1, rfl, ⟨_, x, y, ex, ey, rfl, I.hok.fresh (Nat.le_refl _), rfl⟩, ⟨⟨z'', ?_, u1, u2, ?_⟩, ⟨?_, ?_⟩, l1, l2⟩, fun c hcm => ?_⟩
    · exact (sb.2 _ D.TIz).trans (hk _ _ D.TIz D.TITO D.TIi1 D.TIi2 hTI)
    · exact (sb.2 _ D.TOz).trans TO'
    · exact s1'.1.keep fun o q => (sb.2 _ D.zi1.symm).trans q
    · exact s2'.1.keep fun o q => (sb.2 _ D.zi2.symm).trans q
    · rw [upd_ne (Nat.ne_of_lt (lt c hcm))]
      exact (hf c hcm).1
  done := fun X hP hw hK hc i pins s σ H E I hf st hg => by
    subst hP hw hK
    obtain ⟨⟨hz, hTI, ⟨x0, y0, hTO⟩⟩, ⟨h1, h2⟩, le1, le2⟩ := st
    obtain ⟨⟨q1, q2⟩, en⟩ := hg
    obtain ⟨is1, v1, p1, _⟩ := qk_heap I q1
    obtain ⟨is2, v2, p2, _⟩ := qk_heap I q2
    have z1 : is1.toArray.size = xs.length := by rw [List.size_toArray, v1.length]
    have z2 : is2.toArray.size = ys.length := by rw [List.size_toArray, v2.length]
    have hd : X.A.in1.handled = none := I.ok.hd hc
    refine wpAny_pyNext_zipD2_end D (hk_draws hd k i1 a n1 is1.toArray) (hk_draws hd l i2 b n2 is2.toArray) hz hTI hTO ⟨h1, p1⟩ ⟨h2, p2⟩ (by omega) (by omega) (by omega) fun h' tk hk => ⟨rfl, I.turnedL (t' := tk) (ch := [z, TI, TO, i1, i2]) (fun c o hb q => ?_) hf⟩
    have nb : c ≠ z ∧ c ≠ TI ∧ c ≠ TO ∧ c ≠ i1 ∧ c ≠ i2 := by simpa [not_or] using hb
    exact hk c o nb.1 nb.2.2.1 nb.2.2.2.1 nb.2.2.2.2 q
  self := fun A i s Q E st h => wpAny_pyIter_zip st.1.1 h
def iZipM (K : PySem.W.Frag) (ta : TA) : TI := fun σ H R => ta σ H fun vs H1 => ∃ k l a b xs ys, vs = [.ref a, .ref b] ∧ (QK K k H1 a xs ∧ QK K l H1 b ys) ∧ R (ItzM K k l a b xs ys) H1
theorem pi_zipM {X : Cx} {e e2 : Expr} {ta : TA} {p pos tpos : Pos} {elts : List Expr} {kk : Nat} (hg : Gl X "zip") (hm : X.mg "zip" = none) (ha : PA X [e, e2] ta)
    (hs : starEach [e, e2] X.env = (false, eval e X.env) :: starEach [e2] X.env := by rfl) (hp : (backTo pos (starEach [e2] X.env)).any (·.1) = false := by rfl) :
    PI X (.Tuple elts kk tpos) (.Call (.Name "zip" p) [e, e2] [] pos) (iZipM X.K ta) := by
  refine ⟨fun pins s σ H R I h => ?_⟩
  refine Call_ (ld_blt I hg hm boot_zip (callWith_type1 (thn (ha.run pos pins s σ H _ I h) fun us s1 w => ?_) hs hp))
  obtain ⟨vs, H1, I1, r, k, l, a, b, xs, ys, rfl, ⟨q1, q2⟩, q⟩ := w
  cases r with
  | cons ra rr =>
    cases rr with
    | cons rb rr =>
      cases rr
      cases ra
      cases rb
      obtain ⟨is1, v1, p1, lt1⟩ := qk_heap I1 q1
      obtain ⟨is2, v2, p2, lt2⟩ := qk_heap I1 q2
      obtain ⟨o1, B1, b1⟩ := hk_begins k a is1.toArray
      obtain ⟨o2, B2, b2⟩ := hk_begins l b is2.toArray
      refine zip_begins2 B1 B2 p1 p2 fun h' hz hTI hTO e1 e2 hsz hk => wpAny_pyIter_zip hz ?_
      have I2 : Inv X pins σ H1 { s1 with heap := h' } := I1.kept (t' := s1.toks) hk
      have sep := zip_sep2 (N := s1.heap.objs.size) (fp1 := [a]) (fp2 := [b]) (fun c hc => by simp at hc; rw [hc]; exact lt1) (fun c hc => by simp at hc; rw [hc]; exact lt2)
      refine ⟨_, [s1.heap.objs.size + 4, s1.heap.objs.size + 2, s1.heap.objs.size + 3, s1.heap.objs.size, s1.heap.objs.size + 1], _, _, H1, rfl, I2, turnM sep (Nat.ne_of_lt lt1) (Nat.ne_of_lt (Nat.lt_succ_of_lt lt2)), ⟨⟨hz, hTI, _, _, hTO⟩, ⟨b1 _ _ e1, b2 _ _ e2⟩, Nat.zero_le _, Nat.zero_le _⟩, fun c hc => ?_, q⟩
      have hle : s1.heap.objs.size ≤ c := by
        simp only [List.mem_cons, List.not_mem_nil, or_false] at hc
        rcases hc with rfl | rfl | rfl | rfl | rfl
        · exact Nat.le_add_right _ _
        · exact Nat.le_add_right _ _
        · exact Nat.le_add_right _ _
        · exact Nat.le_refl _
        · exact Nat.le_add_right _ _
      exact I1.fpOk hle (I1.hok.fresh hle)
/-! ### in the layer -/
variable {K : PySem.W.Frag}
@[simp] def zipMF : D → D → Option (List D)
  | .list a, .list b => some (zipD a b)
  | .tuple a, .tuple b => some (zipD a b)
  | .tuple a, .list b => some (zipD a b)
  | .list a, .tuple b => some (zipD a b)
  | _, _ => none
@[simp] def iZpM (f g : Ex) : Ax := fun ρ π => (f ρ π).bind fun x => (g ρ x.2).bind fun y => (zipMF x.1 y.1).map fun z => (z, y.2)
/-- a list or a tuple that stands still, whichever -/
def KPre (K : PySem.W.Frag) (k : Bool) (a : Addr) (xs : List V) (ds : List D) (A : Wd) : Prop := match k with
  | true => TPre K a xs ds A
  | false => LPre K a xs ds A
theorem KPre.step {k : Bool} {a : Addr} {xs : List V} {ds : List D} {A B : Wd} (us : ∀ a, A.U a → A.S a) (h : KPre K k a xs ds A) (x : Step A B) : KPre K k a xs ds B := by
  cases k with
  | true => exact ⟨STp.step us x h.1, DvA.step us x h.2⟩
  | false => exact LPre.step us h x
theorem KPre.q {k : Bool} {a : Addr} {xs : List V} {ds : List D} {A : Wd} (h : KPre K k a xs ds A) : QK K k A.H a xs := by
  cases k with
  | true => exact h.1.sq
  | false => exact sqL h.1
theorem KPre.dv {k : Bool} {a : Addr} {xs : List V} {ds : List D} {A : Wd} (h : KPre K k a xs ds A) : DvA K A.H A.S xs ds := by
  cases k with
  | true => exact h.2
  | false => exact h.2.2
theorem itzM_ok {k l : Bool} {a b : Addr} {xs ys : List V} {ds es : List D} : ItOk K true (ItzM K k l a b xs ys) (fun A => KPre K k a xs ds A ∧ KPre K l b ys es A) (zipD ds es) := by
  refine ⟨fun A B us h x => ⟨h.1.step us x, h.2.step us x⟩, fun i A h n => ⟨⟨h.1.q, h.2.q⟩, ?_⟩, fun i d A al h e => ?_⟩
  · rw [h.1.dv.length, h.2.dv.length]
    exact zipD_stop n
  · obtain ⟨d1, d2, e1, e2, rfl⟩ := zipD_get e
    obtain ⟨v, ev, dv⟩ := h.1.dv.get e1
    obtain ⟨w, ew, dw⟩ := h.2.dv.get e2
    refine ⟨⟨⟨h.1.q, h.2.q⟩, (List.getElem?_eq_some_iff.mp ev).1, (List.getElem?_eq_some_iff.mp ew).1⟩, fun x H' y => ?_⟩
    obtain ⟨T, x0, y0, r1, r2, rfl, hT, rfl⟩ := y
    rw [ev] at r1
    rw [ew] at r2
    cases r1
    cases r2
    exact ⟨upN hT, dxTup hT (.cons dv (.cons dw .nil))⟩
theorem if_zipM {t u : TE} {f g : Ex} (h : YF K t f) (h2 : YF K u g) : IF K true (iZipM K (tCons t (tCons u tNil))) (iZpM f g) := by
  refine ⟨fun fr σ H ρ π R ds π' e Q q => ?_⟩
  unfold iZpM at e
  cases ef : f ρ π with
  | none => rw [ef] at e; cases e
  | some x =>
    rw [ef] at e
    simp only [Option.bind_some] at e
    cases eg : g ρ x.2 with
    | none => rw [eg] at e; cases e
    | some y =>
      rw [eg] at e
      simp only [Option.bind_some] at e
      cases ez : zipMF x.1 y.1 with
      | none => rw [ez] at e; cases e
      | some z =>
        rw [ez] at e
        cases e
        refine h.go fr σ H ρ π R x.1 x.2 ef _ fun v H1 R1 c1 l1 t1 => ?_
        refine h2.go fr σ H1 ρ x.2 R1 y.1 y.2 eg _ fun w H2 R2 c2 l2 t2 => ?_
        obtain ⟨k, p, xs, a, rfl, p1, ea⟩ : ∃ k p xs a, v = .ref p ∧ KPre K k p xs a (wd fr σ ρ H1) ∧ (x.1 = .list a ∨ x.1 = .tuple a) := by
          unfold zipMF at ez
          split at ez
          case h_5 => cases ez
          all_goals (rename_i a b e1 e2; first | (obtain ⟨p, xs, ev, p1⟩ := l1 a e1; exact ⟨false, p, xs, a, ev, p1, .inl e1⟩) | (obtain ⟨p, xs, ev, p1⟩ := t1 a e1; exact ⟨true, p, xs, a, ev, p1, .inr e1⟩))
        obtain ⟨l, r, ys, b, rfl, p2, eb⟩ : ∃ k p xs a, w = .ref p ∧ KPre K k p xs a (wd fr σ ρ H2) ∧ (y.1 = .list a ∨ y.1 = .tuple a) := by
          unfold zipMF at ez
          split at ez
          case h_5 => cases ez
          all_goals (rename_i a b e1 e2; first | (obtain ⟨p, xs, ev, p1⟩ := l2 b e2; exact ⟨false, p, xs, b, ev, p1, .inl e2⟩) | (obtain ⟨p, xs, ev, p1⟩ := t2 b e2; exact ⟨true, p, xs, b, ev, p1, .inr e2⟩))
        have p1' := p1.step R1.us (c2.step σ ρ)
        have ez2 : ds = zipD a b := by
          rcases ea with ea | ea <;> rcases eb with eb | eb <;> (rw [ea, eb] at ez; exact (Option.some.inj ez).symm)
        subst ez2
        exact ⟨k, l, p, r, xs, ys, rfl, ⟨p1'.q, p2.q⟩, q _ _ H2 R2 (c1.trans c2) itzM_ok ⟨p1', p2⟩⟩
end FL


noncomputable section
namespace FL
open PySem PySem.Spec PyProof.Rows L2 EP
variable {K : PySem.W.Frag}
/-! ### a dict of the def's own becomes data: nothing changes it any more -/
def dctD (kvs : List (Key × D)) : D := .dict (kvs.map fun kv => (keyV kv.1, kv.2))
@[simp] def frzD (i : Nat) (ρ : En) : En := match ρ[i]? with
  | some (.dct kvs) => ρ.set i (.dat (dctD kvs))
  | _ => ρ
theorem keys_dctD {ks : List (Key × V)} {kvs : List (Key × D)} (m : ks.map (·.1) = kvs.map (·.1)) : ks.map (fun kv => keyV kv.1) = (kvs.map fun kv => (keyV kv.1, kv.2)).map (·.1) := by
  have e1 : ks.map (fun kv => keyV kv.1) = (ks.map (·.1)).map keyV := by rw [List.map_map]; rfl
  rw [e1, m, List.map_map, List.map_map]; rfl
theorem vals_dctD (kvs : List (Key × D)) : (kvs.map fun kv => (keyV kv.1, kv.2)).map (·.2) = kvs.map (·.2) := by rw [List.map_map]; rfl
theorem Rel.freezeD {fr : Fm} {σ : L2.St} {H : Hp} {ρ : En} {π : Pot} (R : Rel K fr σ H ρ π) {i : Nat} {kvs : List (Key × D)} (hs : ρ[i]? = some (.dct kvs)) :
    ∃ a ks, σ[i]? = some (some (.ref a)) ∧ H a = some (.dK ks) ∧ ∀ o, Rel K fr σ (upd H a (.frz o (.dK ks))) (ρ.set i (.dat (dctD kvs))) π ∧ Step (wd fr σ ρ H) (wd fr σ (ρ.set i (.dat (dctD kvs))) (upd H a (.frz o (.dK ks)))) := by
  have l : i < ρ.length := (List.getElem?_eq_some_iff.mp hs).1
  obtain ⟨a, ks, ev, ea, m, dv⟩ := R.slot i _ hs
  refine ⟨a, ks, ev, ea, fun o => ?_⟩
  have oa : IsOwn σ ρ a := ⟨i, _, hs, rfl, ev⟩
  have ow : ∀ b, IsOwn σ (ρ.set i (.dat (dctD kvs))) b → IsOwn σ ρ b ∧ b ≠ a := by
    rintro b ⟨j, s, e, o, q⟩
    by_cases z : i = j
    · subst z
      rw [List.getElem?_set_self l] at e
      cases e; cases o
    · rw [List.getElem?_set_ne z] at e
      refine ⟨⟨j, s, e, o, q⟩, fun y => z ?_⟩
      subst y
      exact R.nd i j _ s b hs e rfl o ev q
  have st : Step (wd fr σ ρ H) (wd fr σ (ρ.set i (.dat (dctD kvs))) (upd H a (.frz o (.dK ks)))) :=
    ⟨fun b u n z => by show upd H a _ b = _; rw [upd_ne (fun y => n (.inr (by rw [y]; exact oa)))]; exact z, fun b h => .inl (h.imp id fun z => (ow b z).1), fun b h => .inl (h.imp id fun z => (ow b z).1)⟩
  refine ⟨⟨by simp [R.len], fun j s e => ?_, fun j k s t b e1 e2 o1 o2 q1 q2 => ?_, fun b h z => ?_, fun b h => ?_, fun b h => R.os b (ow b h).1⟩, st⟩
  · by_cases z : i = j
    · subst z
      rw [List.getElem?_set_self l] at e
      cases e
      refine ⟨_, ev, .dct upd_same ?_ (keys_dctD m) ?_⟩
      · rintro (y | y)
        · exact R.os a oa y
        · exact (ow a y).2 rfl
      · rw [vals_dctD]; exact dv.step R.us st
    · rw [List.getElem?_set_ne z] at e
      refine (R.slot j s e).stepP R.us st (fun b h => h.imp id fun z => (ow b z).1) fun ot b u e2 q => ?_
      show L2.upd H a _ b = _
      rw [upd_ne (fun y => z ?_)]
      · exact q
      · subst y
        exact R.nd i j _ s b hs e rfl ot ev e2
  · have d1 : i ≠ j := fun c => by
      subst c
      rw [List.getElem?_set_self l] at e1; cases e1; cases o1
    have d2 : i ≠ k := fun c => by
      subst c
      rw [List.getElem?_set_self l] at e2; cases e2; cases o2
    rw [List.getElem?_set_ne d1] at e1
    rw [List.getElem?_set_ne d2] at e2
    exact R.nd j k s t b e1 e2 o1 o2 q1 q2
  · by_cases y : b = a
    · rw [y] at h; exact R.os a oa h
    · rw [upd_ne y] at z; exact R.all b h z
  · obtain ⟨p1, p2, p3⟩ := R.pt b h
    refine ⟨p1, fun z => p2 (ow b z).1, ?_⟩
    rw [upd_ne (fun y => p2 (by rw [y]; exact oa))]
    exact p3
def tFrzS (i : Nat) (t : TS) : TS := fun D σ H => t D σ H ∨ ∃ (a : Addr) (ks : List (Key × V)), σ[i]? = some (some (.ref a)) ∧ H a = some (.dK ks) ∧ ∀ o, t D σ (upd H a (.frz o (.dK ks)))
theorem ps_frzS {X : Cx} {st : Stmt} {t : TS} (i : Nat) (h : PS X st t) : PS X st (tFrzS i t) := by
  refine ⟨fun pins s σ H D I w => ?_⟩
  rcases w with w | ⟨a, ks, _, ea, w⟩
  · exact h.run pins s σ H D I w
  · obtain ⟨o, I2⟩ := I.lock ea trivial
    exact h.run pins s σ _ D I2 (w o)
theorem sf_frzD {nw : Bool} {t : TS} {g : Sx} (i : Nat) (h : SF K nw t g) : SF K nw (tFrzS i t) (fun ρ π => g (frzD i ρ) π) := by
  refine ⟨fun fr σ H ρ π R ρ' π' o e D q => ?_⟩
  unfold frzD at e
  split at e
  · rename_i kvs hs
    obtain ⟨a, ks, ev, ea, f⟩ := R.freezeD hs
    refine .inr ⟨a, ks, ev, ea, fun ob => ?_⟩
    obtain ⟨R1, s1⟩ := f ob
    exact h.go fr σ _ _ π R1 ρ' π' o e D (q.from R R1 s1)
  · exact .inl (h.go fr σ H ρ π R ρ' π' o e D q)
/-! ### dicts are read: of the def's own, or data -/
def mkK : List (D × D) → Option (List (Key × D))
  | [] => some []
  | p :: r => (keyD p.1).bind fun k => (mkK r).map fun l => (k, p.2) :: l
def dSl : Slot → Option (List (Key × D))
  | .dct kvs => some kvs
  | .dat (.dict kvs) => mkK kvs
  | _ => none
theorem keyV_inj {k : Key} {d : D} (h : keyD d = some k) : keyV k = d := by
  unfold keyD at h
  split at h <;> cases h <;> rfl
theorem keyD_keyV (k : Key) : keyD (keyV k) = some k := by cases k <;> rfl
theorem mkK_dctD : ∀ kvs : List (Key × D), mkK (kvs.map fun kv => (keyV kv.1, kv.2)) = some kvs
  | [] => rfl
  | kv :: r => by
    show (keyD (keyV kv.1)).bind _ = _
    rw [keyD_keyV]
    show (mkK (r.map fun kv => (keyV kv.1, kv.2))).map _ = _
    rw [mkK_dctD r]; rfl
@[simp] theorem dSl_dctD (kvs : List (Key × D)) : dSl (.dat (dctD kvs)) = some kvs := mkK_dctD kvs
@[simp] theorem dSl_dct (kvs : List (Key × D)) : dSl (.dct kvs) = some kvs := rfl
theorem keyV_key {a b : Key} (h : keyV a = keyV b) : a = b := by
  have := congrArg keyD h
  rw [keyD_keyV, keyD_keyV] at this
  exact Option.some.inj this
theorem mkK_keys : ∀ {kvs : List (D × D)} {l : List (Key × D)} {ks : List (Key × V)}, mkK kvs = some l → ks.map (fun kv => keyV kv.1) = kvs.map (·.1) → ks.map (·.1) = l.map (·.1) ∧ kvs.map (·.2) = l.map (·.2)
  | [], l, ks, h, m => by
    cases h
    cases ks with
    | nil => exact ⟨rfl, rfl⟩
    | cons _ _ => simp at m
  | p :: r, l, ks, h, m => by
    unfold mkK at h
    obtain ⟨k, e1, h⟩ := Option.bind_eq_some_iff.mp h
    obtain ⟨l', e2, h⟩ := Option.map_eq_some_iff.mp h
    subst h
    cases ks with
    | nil => simp at m
    | cons x ks =>
      have m2 : keyV x.1 = p.1 ∧ ks.map (fun kv => keyV kv.1) = r.map (·.1) := by simpa using m
      obtain ⟨i1, i2⟩ := mkK_keys e2 m2.2
      have : x.1 = k := keyV_key (m2.1.trans (keyV_inj e1).symm)
      exact ⟨by rw [List.map_cons, List.map_cons, i1, this], by rw [List.map_cons, List.map_cons, i2]⟩
theorem Dv.dctR {H : Hp} {S : Addr → Prop} {v : V} {kvs : List (D × D)} {l : List (Key × D)} (h : Dv K H S v (.dict kvs)) (e : mkK kvs = some l) :
    ∃ (a : Addr) (o : Obj) (ks : List (Key × V)), v = .ref a ∧ H a = some (.frz o (.dK ks)) ∧ ¬ S a ∧ ks.map (·.1) = l.map (·.1) ∧ DvA K H S (ks.map (·.2)) (l.map (·.2)) := by
  cases h with
  | dct e1 n m r =>
    obtain ⟨i1, i2⟩ := mkK_keys e m
    exact ⟨_, _, _, rfl, e1, n, i1, i2 ▸ r⟩
theorem Rel.dsl {fr : Fm} {σ : L2.St} {H : Hp} {ρ : En} {π : Pot} (R : Rel K fr σ H ρ π) {i : Nat} {l : List (Key × D)} (h : (ρ[i]?).bind dSl = some l) :
    ∃ (a : Addr) (ks : List (Key × V)), σ[i]? = some (some (.ref a)) ∧ Rd H a (.dK ks) ∧ ks.map (·.1) = l.map (·.1) ∧ DvA K H (wd fr σ ρ H).S (ks.map (·.2)) (l.map (·.2)) := by
  obtain ⟨s, e1, e2⟩ := Option.bind_eq_some_iff.mp h
  have sl := R.slot i s e1
  unfold dSl at e2
  split at e2
  · cases e2
    obtain ⟨a, ks, ev, ea, m, dv⟩ := sl
    exact ⟨a, ks, ev, .inl ea, m, dv⟩
  · obtain ⟨v, ev, dv⟩ := sl
    obtain ⟨a, o, ks, rfl, ea, _, m, r⟩ := dv.dctR e2
    exact ⟨a, ks, ev, .inr ⟨o, ea⟩, m, r⟩
  · cases e2
theorem dget_rd {H : Hp} {a : Addr} {ks : List (Key × V)} {k : Key} (h : Rd H a (.dK ks)) : DGet H a (kV k) (L2.valV ks k) := .inl ⟨ks, k, h, rfl, rfl⟩
/-- d[k] -/
@[simp] def xEG (i : Nat) (f : Ex) : Ex := fun ρ π => ((ρ[i]?).bind dSl).bind fun kvs => (f ρ π).bind fun y => (keyD y.1).bind fun k => (valG kvs k).map fun d => (d, y.2)
theorem ef_eget {i : Nat} {ty : TE} {f : Ex} (hf : BF K ty f) : EF K (tDGet (tVar i) ty) (xEG i f) := by
  refine ⟨fun fr σ H ρ π R d π' e Q q => ?_⟩
  obtain ⟨kvs, hs, e⟩ := Option.bind_eq_some_iff.mp e
  obtain ⟨y, e1, e⟩ := Option.bind_eq_some_iff.mp e
  obtain ⟨k, e2, e⟩ := Option.bind_eq_some_iff.mp e
  obtain ⟨dd, e3, e⟩ := Option.map_eq_some_iff.mp e
  cases e
  obtain ⟨a, ks, ev, _⟩ := R.dsl hs
  refine ⟨_, ev, ?_⟩
  refine hf.go fr σ H ρ π R y.1 y.2 e1 _ fun yv H1 R1 c1 b => ?_
  obtain ⟨a', ks', ev', ea', m', dv'⟩ := R1.dsl hs
  rw [ev] at ev'
  cases ev'
  obtain rfl := keyD_some e2 b
  rcases val_rel (k := k) m' dv' with ⟨_, z⟩ | ⟨v, d2, z1, z2, z3⟩
  · rw [z] at e3; cases e3
  · rw [z2] at e3
    cases e3
    have g := dget_rd (k := k) ea'
    rw [z1] at g
    exact ⟨a, v, rfl, g, q _ H1 R1 c1 z3⟩
/-- d.get(k, x) -/
@[simp] def xEG2 (i : Nat) (f g : Ex) : Ex := fun ρ π => ((ρ[i]?).bind dSl).bind fun kvs => (f ρ π).bind fun y => (keyD y.1).bind fun k => (g ρ y.2).map fun z => ((valG kvs k).getD z.1, z.2)
theorem ef_eget2 {i : Nat} {ty tx : TE} {f g : Ex} (hf : BF K ty f) (hg : EF K tx g) : EF K (tDGet2 (tVar i) ty tx) (xEG2 i f g) := by
  refine ⟨fun fr σ H ρ π R d π' e Q q => ?_⟩
  obtain ⟨kvs, hs, e⟩ := Option.bind_eq_some_iff.mp e
  obtain ⟨y, e1, e⟩ := Option.bind_eq_some_iff.mp e
  obtain ⟨k, e2, e⟩ := Option.bind_eq_some_iff.mp e
  obtain ⟨z, e3, e⟩ := Option.map_eq_some_iff.mp e
  cases e
  obtain ⟨a, ks, ev, ea, _⟩ := R.dsl hs
  refine ⟨_, ev, a, rfl, .inl ⟨ks, ea⟩, ?_⟩
  refine hf.go fr σ H ρ π R y.1 y.2 e1 _ fun yv H1 R1 c1 b => ?_
  obtain rfl := keyD_some e2 b
  refine hg.go fr σ H1 ρ y.2 R1 z.1 z.2 e3 _ fun zv H2 R2 c2 bz => ?_
  obtain ⟨a', ks', ev', ea', m', dv'⟩ := R2.dsl hs
  rw [ev] at ev'
  cases ev'
  refine ⟨_, dget_rd (k := k) ea', ?_⟩
  rcases val_rel (k := k) m' dv' with ⟨z1, z2⟩ | ⟨v, d2, z1, z2, z3⟩
  · rw [z1]
    refine q _ H2 R2 (c1.trans c2) ?_
    rw [z2]; exact bz
  · rw [z1]
    refine q _ H2 R2 (c1.trans c2) ?_
    rw [z2]; exact z3
/-- k in d -/
@[simp] def xEIn (i : Nat) (f : Ex) : Ex := fun ρ π => (f ρ π).bind fun y => ((ρ[i]?).bind dSl).bind fun kvs => (keyD y.1).map fun k => (.bool (valG kvs k).isSome, y.2)
theorem ef_ein {i : Nat} {ty : TE} {f : Ex} (hf : BF K ty f) : EF K (tDIn ty (tVar i)) (xEIn i f) := by
  refine ⟨fun fr σ H ρ π R d π' e Q q => ?_⟩
  obtain ⟨y, e1, e⟩ := Option.bind_eq_some_iff.mp e
  obtain ⟨kvs, hs, e⟩ := Option.bind_eq_some_iff.mp e
  obtain ⟨k, e2, e⟩ := Option.map_eq_some_iff.mp e
  cases e
  refine hf.go fr σ H ρ π R y.1 y.2 e1 _ fun yv H1 R1 c1 b => ?_
  obtain ⟨a, ks, ev, ea, m, dv⟩ := R1.dsl hs
  obtain rfl := keyD_some e2 b
  refine ⟨_, ev, a, _, rfl, dget_rd (k := k) ea, ?_⟩
  have : (L2.valV ks k).isSome = (valG kvs k).isSome := by
    rcases val_rel (k := k) m dv with ⟨z1, z2⟩ | ⟨v, d2, z1, z2, _⟩
    · rw [z1, z2]; rfl
    · rw [z1, z2]; rfl
  rw [this]
  exact q _ H1 R1 c1 (.bl _)
@[simp] def xENin (i : Nat) (f : Ex) : Ex := fun ρ π => (f ρ π).bind fun y => ((ρ[i]?).bind dSl).bind fun kvs => (keyD y.1).map fun k => (.bool (!(valG kvs k).isSome), y.2)
theorem ef_enin {i : Nat} {ty : TE} {f : Ex} (hf : BF K ty f) : EF K (tDNotIn ty (tVar i)) (xENin i f) := by
  refine ⟨fun fr σ H ρ π R d π' e Q q => ?_⟩
  obtain ⟨y, e1, e⟩ := Option.bind_eq_some_iff.mp e
  obtain ⟨kvs, hs, e⟩ := Option.bind_eq_some_iff.mp e
  obtain ⟨k, e2, e⟩ := Option.map_eq_some_iff.mp e
  cases e
  refine hf.go fr σ H ρ π R y.1 y.2 e1 _ fun yv H1 R1 c1 b => ?_
  obtain ⟨a, ks, ev, ea, m, dv⟩ := R1.dsl hs
  obtain rfl := keyD_some e2 b
  refine ⟨_, ev, a, _, rfl, dget_rd (k := k) ea, ?_⟩
  have : (L2.valV ks k).isSome = (valG kvs k).isSome := by
    rcases val_rel (k := k) m dv with ⟨z1, z2⟩ | ⟨v, d2, z1, z2, _⟩
    · rw [z1, z2]; rfl
    · rw [z1, z2]; rfl
  rw [this]
  exact q _ H1 R1 c1 (.bl _)
/-- list(d) -/
@[simp] def xEKeys (i : Nat) : Ex := fun ρ π => ((ρ[i]?).bind dSl).map fun kvs => (.list (kvs.map fun kv => keyV kv.1), π)
theorem nf_ekeys {i : Nat} : NF K (tCB rListDK (tCons (tVar i) tNil)) (xEKeys i) := by
  refine ⟨fun fr σ H ρ π R d π' e Q q => ?_⟩
  obtain ⟨kvs, hs, e⟩ := Option.map_eq_some_iff.mp e
  cases e
  obtain ⟨a, ks, ev, ea, m, dv⟩ := R.dsl hs
  refine ⟨_, ev, a, ks, rfl, ea, fun p hp => ?_⟩
  exact q _ _ (R.kp (upN hp)) (.of (upN hp)) (dnNew R.sA hp (dvA_keys m))
/-- for k in d: d is data -/
@[simp] def iEk (i : Nat) : Ax := fun ρ π => match ρ[i]? with
  | some (.dat (.dict kvs)) => (mkK kvs).map fun l => (l.map fun kv => keyV kv.1, π)
  | _ => none
def KPreD (a : Addr) (o : Obj) (ks : List (Key × V)) (A : Wd) : Prop := A.H a = some (.frz o (.dK ks)) ∧ ¬ A.S a
theorem itk_ok {a : Addr} {o : Obj} {ks : List (Key × V)} : ItOk K false (Itk a o ks) (KPreD a o ks) (ks.map fun kv => keyV kv.1) := by
  refine ⟨fun A B us h x => ⟨x.keep _ _ (fun z => h.2 (us _ z)) h.1, x.sn h.1 h.2⟩, fun i A h l => ⟨h.1, by simpa using l⟩, fun i d A al h e => ?_⟩
  rw [List.getElem?_map] at e
  obtain ⟨kv, e1, e2⟩ := Option.map_eq_some_iff.mp e
  subst e2
  refine ⟨⟨h.1, (List.getElem?_eq_some_iff.mp e1).1⟩, fun x H' y => ?_⟩
  obtain ⟨rfl, k, v, e3, rfl⟩ := y
  rw [e1] at e3
  cases e3
  exact ⟨Kp.refl _, .inl (dv_key k)⟩
theorem if_ekeys {i : Nat} : IF K false (iKeys (tVar i)) (iEk i) := by
  refine ⟨fun fr σ H ρ π R ds π' e Q q => ?_⟩
  unfold iEk at e
  split at e
  · rename_i kvs hs
    obtain ⟨l, e1, e⟩ := Option.map_eq_some_iff.mp e
    cases e
    obtain ⟨v, ev, dv⟩ := R.slot i _ hs
    obtain ⟨a, o, ks, rfl, ea, n, m, r⟩ := dv.dctR e1
    refine ⟨_, ev, a, o, rfl, .inl ⟨ks, ea, ?_⟩⟩
    have e2 : (l.map fun kv => keyV kv.1) = ks.map fun kv => keyV kv.1 := by
      have a1 : (l.map fun kv => keyV kv.1) = (l.map (·.1)).map keyV := by rw [List.map_map]; rfl
      have a2 : (ks.map fun kv => keyV kv.1) = (ks.map (·.1)).map keyV := by rw [List.map_map]; rfl
      rw [a1, a2, m]
    rw [e2] at q
    exact q _ _ H R (.refl _ _) itk_ok ⟨ea, n⟩
  · cases e
/-! ### {k: v for ..}, locked as soon as it stands -/
@[simp] def dcGo (tg : Gx) (tt : Tx) (kx vx : Ex) (ρw : En) : List D → Pot → List (Key × D) → Option (List (Key × D) × Pot)
  | [], π, acc => some (acc, π)
  | d :: r, π, acc => (tg d ρw).bind fun ρ2 => (tt ρ2 π).bind fun b => if b.1 = true then (kx ρ2 b.2).bind fun y => (keyD y.1).bind fun k => (vx ρ2 y.2).bind fun z => dcGo tg tt kx vx ρw r z.2 (putG acc k z.1) else dcGo tg tt kx vx ρw r b.2 acc
@[simp] def xDc (it : Ax) (tg : Gx) (tt : Tx) (kx vx : Ex) (vs : List Nat) : Ex := fun ρ π => (it ρ π).bind fun x =>
  if ownFree ρ vs = true ∧ x.1.length ≤ 100000 then (dcGo tg tt kx vx (wipeE ρ vs) x.1 x.2 []).map fun z => (dctD z.1, z.2) else none
theorem putG_len {α : Type} (l : List (Key × α)) (k : Key) (v : α) : (putG l k v).length ≤ l.length + 1 := by
  unfold putG
  split <;> simp
theorem ef_dc {w : Bool} {wi : TI} {it : Ax} {g : TG} {tg : Gx} {t : TT} {tt : Tx} {tk tv : TE} {kx vx : Ex} {vs : List Nat} (hi : IF K w wi it) (hg : GF K w vs g tg) (ht : TF K t tt) (hk : BF K tk kx) (he : EF K tv vx) :
    EF K (tFrzD (tDc wi g t tk tv vs)) (xDc it tg tt kx vx vs) := by
  refine ⟨fun fr σ H ρ π R d π' e Q q => ?_⟩
  obtain ⟨x, ei, e⟩ := Option.bind_eq_some_iff.mp e
  split at e
  case isFalse => cases e
  rename_i cc
  obtain ⟨of, ln⟩ := cc
  obtain ⟨z, eg, e⟩ := Option.map_eq_some_iff.mp e
  cases e
  obtain ⟨ds, π1⟩ := x
  obtain ⟨acc, πe⟩ := z
  have ln : ds.length ≤ 100000 := ln
  refine hi.go fr σ H ρ π R ds π1 ei _ fun J P H1 R1 c1 ok p1 => ?_
  intro p hp
  have own1 : ∀ a, (wd fr σ ρ H1).S a → a ≠ p := fun a h z => R1.sSome h (by rw [z]; exact hp)
  have np : fr.pt ≠ some p := fun z => own1 p (.inl (R1.pt p z).1) rfl
  let St : Nat → Hp → Prop := fun i H2 => ∃ (π2 : Pot) (ks : List (Key × V)) (kd : List (Key × D)), ChgP fr H1 H2 ∧
      (∀ a, fr.pt = some a → H2 a = some (.lst (π2.map V.int))) ∧
      H2 p = some (.dK ks) ∧ ks.map (·.1) = kd.map (·.1) ∧ DvA K H2 (fun b => (wd fr σ ρ H2).S b ∨ b = p) (ks.map (·.2)) (kd.map (·.2)) ∧ kd.length ≤ i ∧
      dcGo tg tt kx vx (wipeE ρ vs) (ds.drop i) π2 kd = some (acc, πe)
  refine ⟨fun i m H2 => m = ds.length - i ∧ i ≤ ds.length ∧ St i H2, ⟨ds.length, by omega, Nat.zero_le _, π1, [], [], .of (upN hp), fun a h => ?_, upd_same, rfl, .nil, Nat.le_refl _, eg⟩, ?_⟩
  · exact upN hp _ _ (R1.pt a h).2.2
  rintro i m H2 ⟨rfl, il, π2, ks, kd, c2, pf, ep, mk, da, la, el2⟩
  obtain ⟨R2, st2⟩ := R1.keep c2 hp (by rw [ep]; intro z; cases z) pf
  have P2 := ok.st _ _ R1.us p1 st2
  by_cases c : i < ds.length
  · right
    obtain ⟨d, ed, edr⟩ := drop_at c
    rw [edr] at el2
    obtain ⟨go, yl⟩ := ok.go i d (wd ⟨fun a => fr.S0 a ∨ a = p, fr.pt⟩ σ ρ H2) R2.sA P2 ed
    refine ⟨go, fun H3 => St (i + 1) H3, fun H3 h3 => ⟨ds.length - (i + 1), by omega, rfl, by omega, h3⟩, ?_⟩
    intro x H3 y
    obtain ⟨k3, dx⟩ := yl x H3 y
    have R3 := R2.kp k3
    obtain ⟨Rw, ow⟩ := R3.wiped vs
    unfold dcGo at el2
    obtain ⟨ρ2, etg, el2⟩ := Option.bind_eq_some_iff.mp el2
    have dxw : Dx K w H3 (wd ⟨fun a => fr.S0 a ∨ a = p, fr.pt⟩ (wipe σ vs) (wipeE ρ vs) H3).S x d := dx.weak fun a z => z.imp id (ow a)
    refine hg.go _ (wipe σ vs) H3 (wipeE ρ vs) π2 Rw x d dxw ρ2 etg _ fun σ2 R4 st4 ag4 ow4 => ?_
    refine ⟨wipe_ag ag4, ?_⟩
    have ownb : ∀ a, IsOwn σ ρ a → IsOwn σ2 ρ2 a := fun a h => by
      obtain ⟨j, s, e1, e2, e3⟩ := own_wipe of h
      have nj : j ∉ vs := fun z => by
        have := wipe_in σ vs j z
        rw [e3] at this
        split at this <;> cases this
      exact ⟨j, s, by rw [hg.ag d _ ρ2 etg j nj]; exact e1, e2, by rw [ag4.2 j nj]; exact e3⟩
    have Sb : ∀ H a, (wd fr σ ρ H).S a ∨ a = p → (wd ⟨fun a => fr.S0 a ∨ a = p, fr.pt⟩ σ2 ρ2 H).S a := fun H a z => by
      rcases z with (z | z) | z
      · exact .inl (.inl z)
      · exact .inr (ownb a z)
      · exact .inl (.inr z)
    have fin : ∀ (H4 : Hp) (π4 : Pot), ChgP fr H3 H4 → Rel K ⟨fun a => fr.S0 a ∨ a = p, fr.pt⟩ σ2 H4 ρ2 π4 → ChgP fr H1 H4 ∧
        (∀ a, fr.pt = some a → H4 a = some (.lst (π4.map V.int))) ∧ H4 p = some (.dK ks) ∧ DvA K H4 (fun b => (wd fr σ ρ H4).S b ∨ b = p) (ks.map (·.2)) (kd.map (·.2)) := by
      intro H4 π4 c4 R5
      have c24 : ChgP fr H2 H4 := (ChgP.of k3).trans c4
      refine ⟨c2.trans c24, fun a h => (R5.pt a h).2.2, c24 _ _ np ep, ?_⟩
      refine DvA.step (A := ⟨fun a => fr.pt = some a, fun b => (wd fr σ ρ H2).S b ∨ b = p, H2⟩) (B := ⟨fun a => fr.pt = some a, fun b => (wd fr σ ρ H4).S b ∨ b = p, H4⟩) (fun a z => .inl (.inl (R1.pt a z).1)) ?_ da
      exact ⟨fun b o n z => c24 b o n z, fun a z => .inl z, fun a z => .inl z⟩
    obtain ⟨b, ett, el2⟩ := Option.bind_eq_some_iff.mp el2
    refine ht.go _ σ2 H3 ρ2 π2 R4 b.1 b.2 ett _ fun H4 R5 c4 => ?_
    by_cases cb : b.1 = true
    · rw [if_pos cb] at el2 ⊢
      obtain ⟨y, ek, el2⟩ := Option.bind_eq_some_iff.mp el2
      obtain ⟨k, ekd, el2⟩ := Option.bind_eq_some_iff.mp el2
      obtain ⟨z, ev, el2⟩ := Option.bind_eq_some_iff.mp el2
      refine hk.go _ σ2 H4 ρ2 b.2 R5 y.1 y.2 ek _ fun kv H5 R6 c5 bk => ?_
      obtain rfl := keyD_some ekd bk
      refine he.go _ σ2 H5 ρ2 y.2 R6 z.1 z.2 ev _ fun v H6 R7 c6 dv => ?_
      obtain ⟨f1, f2, f3, f4⟩ := fin H6 z.2 (c4.trans (c5.trans c6)) R7
      have lk : ks.length = kd.length := by have := congrArg List.length mk; simpa using this
      refine ⟨ks, k, rfl, f3, szLt (by rw [lk]; omega), ?_⟩
      have up : ∀ {ws : List V} {es : List D}, DvA K H6 (fun b => (wd fr σ ρ H6).S b ∨ b = p) ws es → DvA K (upd H6 p (.dK (L2.putK ks k v))) (fun b => (wd fr σ ρ (upd H6 p (.dK (L2.putK ks k v)))).S b ∨ b = p) ws es := fun h =>
        DvA.step (A := ⟨fun a => a = p, fun b => (wd fr σ ρ H6).S b ∨ b = p, H6⟩) (B := ⟨fun a => a = p, fun b => (wd fr σ ρ (upd H6 p (.dK (L2.putK ks k v)))).S b ∨ b = p, upd H6 p (.dK (L2.putK ks k v))⟩) (fun a z => .inr z)
          ⟨fun b o n z => by show upd H6 p _ b = _; rw [upd_ne n]; exact z, fun a z => .inl z, fun a z => .inl z⟩ h
      obtain ⟨q1, q2⟩ := put_rel (k := k) (dv.weak fun a w => Sb H6 a w) mk f4
      refine ⟨z.2, L2.putK ks k v, putG kd k z.1, fun b o n w => ?_, fun a h => ?_, upd_same, q1, up q2, by have := putG_len kd k z.1; omega, el2⟩
      · have : b ≠ p := fun q => by rw [q, hp] at w; cases w
        rw [upd_ne this]
        exact f1 b o n w
      · rw [upd_ne (fun q => np (by rw [← q]; exact h))]; exact f2 a h
    · rw [if_neg cb] at el2 ⊢
      obtain ⟨f1, f2, f3, f4⟩ := fin H4 b.2 c4 R5
      exact ⟨b.2, ks, kd, f1, f2, f3, mk, f4, by omega, el2⟩
  · left
    have ie : i = ds.length := by omega
    refine ⟨ok.stop i (wd ⟨fun a => fr.S0 a ∨ a = p, fr.pt⟩ σ ρ H2) P2 (by omega), p, ks, rfl, ep, fun o => ?_⟩
    rw [ie, List.drop_length] at el2
    unfold dcGo at el2
    cases el2
    have c3 : ChgP fr H1 (upd H2 p (.frz o (.dK ks))) := fun b u n w => by
      have : b ≠ p := fun q => by rw [q, hp] at w; cases w
      rw [upd_ne this]; exact c2 b u n w
    have R5 : Rel K fr σ (upd H2 p (.frz o (.dK ks))) ρ πe := R1.chg c3 fun a h => by
      rw [upd_ne (fun q => np (by rw [← q]; exact h))]; exact pf a h
    refine q _ _ R5 (c1.trans c3) (.dct upd_same (fun z => own1 p z rfl) (keys_dctD mk) ?_)
    rw [vals_dctD]
    exact DvA.step (A := ⟨fun a => a = p, fun b => (wd fr σ ρ H2).S b ∨ b = p, H2⟩) (B := ⟨fun a => a = p, (wd fr σ ρ (upd H2 p (.frz o (.dK ks)))).S, upd H2 p (.frz o (.dK ks))⟩) (fun a z => .inr z)
      ⟨fun b o n z => by show upd H2 p _ b = _; rw [upd_ne n]; exact z, fun a z => .inl z, fun a z => .inl (.inl z)⟩ da
end FL

noncomputable section
namespace FL
open PySem PySem.Spec PyProof.Rows L2 EP
variable {K : PySem.W.Frag}
/-! ### dict(t) of a tuple of pairs -/
def TpAt (K : PySem.W.Frag) (H : Hp) (a : Addr) (xs : List V) : Prop := (∃ o, TpO o ∧ H a = some (.frz o (.tup xs))) ∨ ∃ (o : Obj) (its : Array Value) (n : Nat), K.lookup a = some o ∧ TpO o ∧ o.data = .seq its n ∧ its.size ≤ sizeLine ∧ Vals xs its.toList
theorem STp.tpAt {H : Hp} {S : Addr → Prop} {a : Addr} {xs : List V} (h : STp K H S a xs) : TpAt K H a xs := by
  rcases h with ⟨o, ty, e, _⟩ | h
  · exact .inl ⟨o, ty, e⟩
  · exact .inr h
section
variable {X : Cx} {pins : List (Addr × Obj)} {σ : L2.St} {H : Hp} {s : Shared}
theorem tp_heap {a : Addr} {xs : List V} (I : Inv X pins σ H s) (h : TpAt X.K H a xs) : ∃ its : List Value, Vals xs its ∧ its.length ≤ sizeLine ∧ PlainSeq "tuple" s.heap a its.toArray := by
  rcases h with ⟨o, ty, e⟩ | ⟨o, its, n, lk, ty, ed, z, r⟩
  · have ok := I.hok a _ e
    obtain ⟨g, l, its, rv, o2, g2, _, n, ed⟩ := ok
    rw [g] at g2
    cases g2
    exact ⟨its, rv, by rw [← rv.length]; exact l, o, n, g, ty.1, ty.2, ed⟩
  · refine ⟨its.toList, r, by simpa using z, o, n, I.kIn a o lk, ty.1, ty.2, ?_⟩
    rw [Array.toArray_toList]; exact ed
theorem pairs_two (I : Inv X pins σ H s) : ∀ {ps : List Addr} {kvs : List (Key × V)}, Paired (fun p kv => SqT X.K H p [kV kv.1, kv.2]) ps kvs →
    ∃ (us : List (Value × Value)) (ks : List (Key × Value)), KV kvs ks ∧ us.length = ps.length ∧ ks.length = ps.length ∧
      ∀ (j : Nat) (k v : Value), us[j]? = some (k, v) → ∃ b key, ps[j]? = some b ∧ PairAt s.heap b k v ∧ ks[j]? = some (key, v) ∧ (mixKind X.prog X.w).is key k = true
  | _, _, .nil => ⟨[], [], .nil, rfl, rfl, fun j k v e => by simp at e⟩
  | _, _, .cons (a := p) (b := kv) h t => by
    obtain ⟨us, ks, r, l1, l2, f⟩ := pairs_two I t
    obtain ⟨its, rv, ht, _⟩ := I.tuple h
    obtain ⟨u, y, rfl, ru, ry⟩ := vals2 rv
    refine ⟨(u, y) :: us, (kv.1, y) :: ks, .cons ⟨rfl, ry⟩ r, by simp [l1], by simp [l2], fun j k v e => ?_⟩
    cases j with
    | zero =>
      have e : some (u, y) = some (k, v) := e
      cases e
      exact ⟨p, kv.1, rfl, .inl ht, rfl, kV_is ru⟩
    | succ j =>
      rw [List.getElem?_cons_succ] at e
      obtain ⟨b, key, e1, e2, e3, e4⟩ := f j k v e
      exact ⟨b, key, e1, e2, e3, e4⟩
def rDictT (K : PySem.W.Frag) : List V → Hp → VK → Prop := fun vs H Q => ∃ (a : Addr) (ps : List Addr) (kvs : List (Key × V)), vs = [.ref a] ∧ TpAt K H a (ps.map V.ref) ∧ Paired (fun p kv => SqT K H p [kV kv.1, kv.2]) ps kvs ∧
  ∀ d, H d = none → Q (.ref d) (upd H d (.dK (L2.mergeK [] kvs)))
theorem cr_dictT (hc : X.calm = true) : CallR X (.type "dict") (rDictT X.K) := by
  intro pins s σ H vs us Q I r h
  obtain ⟨a, ps, kvs, rfl, ht, hp, q⟩ := h
  rw [Vals.ref1 r]
  obtain ⟨its, rv, z, pl⟩ := tp_heap I ht
  have ei := refs_at rv
  subst ei
  obtain ⟨prs, ks, rel, l1, l2, f⟩ := pairs_two I hp
  rw [List.length_map] at z
  have tsj : ∀ {j : Nat} {b : Addr}, ps[j]? = some b → ps.getD j 0 = b := fun {j b} e => by rw [List.getD_eq_getElem?_getD, e]; rfl
  refine PySem.call_dict_pairs (knd := mixKind X.prog X.w) (kvs := ks) (PairArg.tuple a _ (fun j => ps.getD j 0) prs) (I.ok.hd hc) ⟨pl, by simp [l1], fun j k v e => ?_⟩ ⟨by rw [l2, l1], fun j k v e => ?_⟩ (by rw [l1]; exact z) fun h' tk hd keep => ?_
  · obtain ⟨b, key, e1, e2, _, _⟩ := f j k v e
    show _ = some (Value.ref (ps.getD j 0)) ∧ PairAt s.heap (ps.getD j 0) k v
    rw [tsj e1]
    exact ⟨by simp [e1], e2⟩
  · obtain ⟨b, key, _, _, e3, e4⟩ := f j k v e
    exact ⟨key, e3, e4⟩
  · have fresh := I.hok.fresh (Nat.le_refl s.heap.objs.size)
    have small : (L2.mergeK [] kvs).length ≤ sizeLine := by
      have a1 := L2.length_mergeK kvs []
      have a2 : kvs.length = ks.length := rel.length
      rw [List.length_nil] at a1
      omega
    have nm : (s.heap.objs.size == sysModules) = false := beq_eq_false_iff_ne.mpr (Nat.ne_of_gt I.big)
    refine ⟨.ref s.heap.objs.size, _, I.laid (t' := tk) (o := .dK (L2.mergeK [] kvs)) (fun b o e => keep b o (by simp) e) (Nat.le_refl _) ?_, rfl, q _ fresh⟩
    exact ⟨small, nm, _, KV.merge rel .nil, hd⟩
def rDictA (K : PySem.W.Frag) : List V → Hp → VK → Prop := fun vs H Q => rDictP K vs H Q ∨ rDictT K vs H Q
theorem cr_dictA (hc : X.calm = true) : CallR X (.type "dict") (rDictA X.K) := by
  intro pins s σ H vs us Q I r h
  rcases h with h | h
  · exact cr_dictP hc pins s σ H vs us Q I r h
  · exact cr_dictT hc pins s σ H vs us Q I r h
/-! ### sorted(d) of a dict whose keys are whole numbers -/
def rSortDI : List V → Hp → VK → Prop := fun vs H Q => ∃ (a : Addr) (kvs : List (Key × V)) (ns : List Int), vs = [.ref a] ∧ Rd H a (.dK kvs) ∧ kvs.map (·.1) = ns.map Sum.inl ∧
  ∀ (ys : List Int) (p : Addr), ys.Perm ns → ys.Pairwise (· ≤ ·) → H p = none → Q (.ref p) (upd H p (.lst (ys.map V.int)))
theorem keyInt {P : Program} {w : World} {i : Int} {v : Value} (h : (mixKind P w).is (.inl i) v = true) : ∃ t, v = .int i t := by
  have h : keyIs (Sum.inl i) v = true := h
  rcases keyIs_shape h with ⟨j, t, e, e2⟩ | ⟨x, t, e, e2⟩
  · cases e; exact ⟨t, e2⟩
  · cases e
theorem ints_of_at : ∀ {vs : List Value} {ns : List Int}, vs.length = ns.length → (∀ (j : Nat) (v : Value), vs[j]? = some v → ∃ i t, ns[j]? = some i ∧ v = .int i t) → IntsAre vs ns
  | [], [], _, _ => .nil
  | v :: vs, n :: ns, l, h => by
    obtain ⟨i, t, e1, e2⟩ := h 0 v rfl
    have e1 : n = i := Option.some.inj e1
    subst e1
    subst e2
    exact .cons n t (ints_of_at (by simpa using l) fun j w e => h (j + 1) w e)
theorem cr_sortedDI (hc : X.calm = true) : CallR X (.builtin "sorted") rSortDI := by
  intro pins s σ H vs us Q I r h
  obtain ⟨a, kvs, ns, rfl, hd, hk, q⟩ := h
  rw [Vals.ref1 r]
  obtain ⟨z, lo, prs, rel, dd⟩ := dk_rd I.hok hd
  obtain ⟨ep, hat⟩ := dd.dictAt
  have keysN : prs.map (·.1) = ns.map Sum.inl := rel.keys.symm.trans hk
  have ln : prs.length = ns.length := by
    have := congrArg List.length keysN
    rwa [List.length_map, List.length_map] at this
  have ln2 : kvs.length = ns.length := by
    have := congrArg List.length hk
    rwa [List.length_map, List.length_map] at this
  have bound : prs.length ≤ sizeLine := by rw [ln, ← ln2]; exact z
  refine Calls.call_function_entry PyProof.Rows.kind_sorted PyProof.Rows.plain_sorted PyProof.Rows.entry_sorted (PyProof.Rows.args_sorted1 _) ?_
  unfold Builtin.«sorted»
  refine wpAny_bind (m := checkCount "sorted" 1 1 _) (wpAny_pure ?_)
  refine wpAny_bind (PySem.W.kdu_collect (PySem.W.kdl_dict (knd := mixKind X.prog X.w) (kvs := prs) (ep := ep) lo) (I.ok.hd hc) hat bound fun g tk got keep has => ?_)
  have gl : got.toList.length = ns.length := (Array.length_toList).trans (has.1.trans ln)
  have gi : IntsAre got.toList ns := ints_of_at gl fun j v e => by
    rw [Array.getElem?_toList] at e
    obtain ⟨k, x, e1, e2⟩ := has.2 j v e
    have e3 : (ns.map (Sum.inl (β := Str)))[j]? = some k := by rw [← keysN, List.getElem?_map, e1]; rfl
    rw [List.getElem?_map] at e3
    obtain ⟨i, e4, e5⟩ := Option.map_eq_some_iff.mp e3
    subst e5
    obtain ⟨t, et⟩ := keyInt e2
    exact ⟨i, t, e4, et⟩
  have I1 : Inv X pins σ H { s with heap := g, toks := tk } := I.kept keep
  have small : got.toList.length ≤ sizeLine := by rw [gl, ← ln]; exact bound
  refine wpAny_bind (wpAny_newList ?_ small)
  have at0 : (g.push (seqObj "list" got.toList.toArray 0)).get? g.objs.size = some (seqObj "list" got.toList.toArray 0) := Heap.get?_push_size _ rfl
  show wpAny _ _ _ _ _ { s with heap := g.push (seqObj "list" got.toList.toArray 0), toks := tk }
  refine wpAny_bind (wpAny_holding ?_)
  refine wpAny_call_entry PyProof.Rows.slot_list_sort ⟨_, at0, rfl⟩ PyProof.Rows.entry_list_sort ?_ (PyProof.Rows.args_list_sort _)
  refine SrtO.list_sort_ord SrtO.swo_int at0 small (fun h2 => SrtO.ints_sortable gi h2) fun out h1 h2 => ?_
  refine ⟨_, rfl, ?_⟩
  obtain ⟨k1, k2, k3⟩ := SrtO.ints_out gi h1 h2
  obtain ⟨ep2, at2⟩ := PyProof.Rows.sortedHeap_at (vs := got.toList) (out := out.toArray) at0
  have okL : ((out.map SrtO.iv).map V.int).length ≤ sizeLine := by rw [List.length_map, k2.length_eq, ← gl]; exact small
  have new := I1.hok.fresh (Nat.le_refl g.objs.size)
  refine wpAny_pure ⟨_, rfl, .ref g.objs.size, upd H g.objs.size (.lst ((out.map SrtO.iv).map V.int)), I1.laid (t' := tk) (fun b u e => ?_) (Nat.le_refl _) ⟨okL, out, ep2, vals_of_ints k1, at2⟩, rfl, q _ _ k2 k3 new⟩
  have lt : b < g.objs.size := Heap.lt_size e
  rw [PyProof.Rows.sortedHeap_old (Nat.ne_of_lt lt) (by rw [size_push']; exact Nat.lt_succ_of_lt lt)]
  exact Heap.get?_push_of_some _ e
end
/-! ### in the layer -/
@[simp] def sDA (i : Nat) (f : Ex) : Sx := fun ρ π => (f ρ π).bind fun y => (match y.1 with
  | .list ds => some ds
  | .tuple ds => some ds
  | _ => none).bind fun ds => (prI ds).bind fun l => if hasScr ρ = true then none else some (ρ.set i (.dct (kvI (mI l))), y.2, .nx)
theorem sf_dany {nw : Bool} {i : Nat} {te : TE} {f : Ex} (h : EF K te f) : SF K nw (tAsg (tCB (rDictA K) (tCons te tNil)) (gName i)) (sDA i f) := by
  refine ⟨fun fr σ H ρ π R ρ' π' o e D q => ?_⟩
  obtain ⟨y, ef, e⟩ := Option.bind_eq_some_iff.mp e
  obtain ⟨ds, ed, e⟩ := Option.bind_eq_some_iff.mp e
  obtain ⟨l, el, e⟩ := Option.bind_eq_some_iff.mp e
  split at e
  · cases e
  · rename_i hs
    have hs : hasScr ρ = false := by simpa using hs
    cases e
    refine h.go fr σ H ρ π R y.1 y.2 ef _ fun v H1 R1 c b => ?_
    have fin : ∀ p, H1 p = none → D.nx (σ.set i (some (.ref p))) (upd H1 p (.dK (L2.mergeK [] (kvV l)))) := fun p hp => by
      rw [merge_kvV]
      have R2 : Rel K fr σ (upd H1 p (.dK (kvV (mI l)))) ρ y.2 := R1.kp (upN hp)
      obtain ⟨R3, s3⟩ := R1.setDctI R2 (.of (upN hp)) (i := i) (mI l) hp upd_same (fun j ns a e1 _ => (noScr hs e1).elim)
      exact q _ _ R3 (((c.step σ ρ)).trans R.us s3)
    split at ed
    · rename_i ds' hy
      cases ed
      rw [hy] at b
      cases b with
      | lst e1 n1 r1 =>
        obtain ⟨ps, e2, e3⟩ := pairs_rel r1 el
        subst e2
        exact .inl ⟨_, ps, kvV l, rfl, sqL e1, e3, fin⟩
    · rename_i ds' hy
      cases ed
      rw [hy] at b
      cases b with
      | tup e1 r1 =>
        obtain ⟨ps, e2, e3⟩ := pairs_rel r1 el
        subst e2
        exact .inr ⟨_, ps, kvV l, rfl, e1.tpAt, e3, fin⟩
    · cases ed
def intK : List (Key × D) → Option (List Int)
  | [] => some []
  | (.inl i, _) :: r => (intK r).map fun l => i :: l
  | _ => none
theorem intK_keys : ∀ {l : List (Key × D)} {ns : List Int}, intK l = some ns → l.map (·.1) = ns.map Sum.inl
  | [], ns, h => by cases h; rfl
  | (.inl i, d) :: r, ns, h => by
    have h : (intK r).map (fun l => i :: l) = some ns := h
    obtain ⟨l', e1, e⟩ := Option.map_eq_some_iff.mp h
    subst e
    rw [List.map_cons, List.map_cons, intK_keys e1]
  | (.inr i, d) :: r, ns, h => by cases h
/-- sorted(d) -/
@[simp] def xESort (i : Nat) : Ex := fun ρ π => ((ρ[i]?).bind dSl).bind fun kvs => (intK kvs).map fun ns => (.list ((sortI ns).map PyData.int), π)
theorem nf_esort {i : Nat} : NF K (tCB rSortDI (tCons (tVar i) tNil)) (xESort i) := by
  refine ⟨fun fr σ H ρ π R d π' e Q q => ?_⟩
  obtain ⟨kvs, hs, e⟩ := Option.bind_eq_some_iff.mp e
  obtain ⟨ns, en, e⟩ := Option.map_eq_some_iff.mp e
  cases e
  obtain ⟨a, ks, ev, ea, m, dv⟩ := R.dsl hs
  refine ⟨_, ev, a, ks, ns, rfl, ea, m.trans (intK_keys en), fun ys p p1 p2 hp => ?_⟩
  have : ys = sortI ns := perm_sorted_uniq (p1.trans (sortI_spec ns).1.symm) p2 (sortI_spec ns).2
  subst this
  exact q _ _ (R.kp (upN hp)) (.of (upN hp)) (dnNew R.sA hp (intsDv _))
theorem nn_frzD {g : Sx} {i : Nat} (n : NN g) : NN (fun ρ π => g (frzD i ρ) π) := fun ρ π ρ' π' e => n _ _ _ _ e
end FL


noncomputable section
namespace FL
open PySem PySem.Spec PyProof.Rows L2 EP
variable {K : PySem.W.Frag}
/-! ### [el for x in xs for y in range(..)] -/
structure IFr (K : PySem.W.Frag) (t : TI) (f : Ax) : Prop where
  go : ∀ (fr : Fm) (σ : L2.St) (H : Hp) (ρ : En) (π : Pot), Rel K fr σ H ρ π → ∀ ds π', f ρ π = some (ds, π') → ∀ R : It → Hp → Prop,
    (∀ J H', Rel K fr σ H' ρ π' → ChgP fr H H' → ItOk K false J (fun _ => True) ds → R J H') → t σ H R
theorem ifr_rng1 {t : TE} {a : Ex} (h : BF K t a) : IFr K (iRng1 (tCons t tNil)) (iR (aCons a aNil)) := by
  refine ⟨fun fr σ H ρ π R ds π' e Q q => ?_⟩
  obtain ⟨es, ea, ed⟩ := iR_some e
  obtain ⟨d, π1, es2, e1, e2, rfl⟩ := aCons_some ea
  cases e2
  refine (ab_cons h ab_nil).go fr σ H ρ π R _ π' ea _ fun vs H' R' c b => ?_
  unfold rgF at ed
  split at ed
  · rename_i j he
    cases he
    split at ed
    · rename_i k
      cases ed
      obtain ⟨v, rfl, h1⟩ := dbA1 b
      obtain rfl := h1.int
      have r := rgOk_of k
      exact ⟨j, rfl, r.1, r.2, q _ H' R' c itr_ok⟩
    · cases ed
  · rename_i he; cases he
  · cases ed
theorem ifr_rng2 {t u : TE} {a b : Ex} (h : BF K t a) (h2 : BF K u b) : IFr K (iRng2 (tCons t (tCons u tNil))) (iR (aCons a (aCons b aNil))) := by
  refine ⟨fun fr σ H ρ π R ds π' e Q q => ?_⟩
  obtain ⟨es, ea, ed⟩ := iR_some e
  obtain ⟨d, π1, es2, e1, e2, rfl⟩ := aCons_some ea
  obtain ⟨d2, π2, es3, e3, e4, rfl⟩ := aCons_some e2
  cases e4
  refine (ab_cons h (ab_cons h2 ab_nil)).go fr σ H ρ π R _ π' ea _ fun vs H' R' c b => ?_
  unfold rgF at ed
  split at ed
  · rename_i he; cases he
  · rename_i i j he
    cases he
    split at ed
    · rename_i k
      cases ed
      obtain ⟨v, w, rfl, h1, h2⟩ := dbA2 b
      obtain rfl := h1.int
      obtain rfl := h2.int
      have r := rgOk_of k.1
      have r2 := rgOk_of k.2
      exact ⟨i, j, rfl, ⟨r.1, r.2, r2.1, r2.2⟩, q _ H' R' c itr_ok⟩
    · cases ed
  · cases ed
def Slot.isDat : Slot → Bool
  | .dat _ => true
  | .un => true
  | _ => false
@[simp] def datAt (ρ : En) (vs : List Nat) : Bool := vs.all fun i => match ρ[i]? with
  | some s => s.isDat
  | none => true
def Cst (K : PySem.W.Frag) (p : Addr) (s : Slot) : Prop := ∃ ns, s = .scr ns ∧ ∃ (o : Obj) (its : Array Value) (n : Nat), K.lookup p = some o ∧ o.cls = .type "list" ∧ o.dict = none ∧ o.data = .seq its n ∧ its.size ≤ sizeLine ∧ Vals (ns.map V.int) its.toList
def NoP (K : PySem.W.Frag) (p : Addr) (σ : L2.St) (ρ : En) : Prop := ∀ (i : Nat) (s : Slot), ρ[i]? = some s → σ[i]? = some (some (.ref p)) → s.isDat = true ∨ Cst K p s
theorem Rel.chgP {fr : Fm} {σ : L2.St} {H H' : Hp} {ρ : En} {π π' : Pot} {p : Addr} (R : Rel K fr σ H ρ π) (s0 : fr.S0 p) (np : NoP K p σ ρ) (pp : fr.pt ≠ some p)
    (c : ∀ b o, fr.pt ≠ some b → b ≠ p → H b = some o → H' b = some o) (h' : H' p ≠ none) (pf : ∀ a, fr.pt = some a → H' a = some (.lst (π'.map V.int))) : Rel K fr σ H' ρ π' := by
  have st : Step ⟨fun a => (wd fr σ ρ H).U a ∨ a = p, (wd fr σ ρ H).S, H⟩ (wd fr σ ρ H') :=
    ⟨fun b o n e => c b o (fun z => n (.inl (.inl z))) (fun z => n (.inr z)) e, fun a z => .inl (.inl z), fun a z => .inl z⟩
  have us : ∀ a, (⟨fun a => (wd fr σ ρ H).U a ∨ a = p, (wd fr σ ρ H).S, H⟩ : Wd).U a → (⟨fun a => (wd fr σ ρ H).U a ∨ a = p, (wd fr σ ρ H).S, H⟩ : Wd).S a := fun a z => by
    rcases z with z | z
    · exact R.us a z
    · rw [z]; exact .inl s0
  refine ⟨R.len, fun i s e => ?_, R.nd, fun a z y => ?_, fun a z => ⟨(R.pt a z).1, (R.pt a z).2.1, pf a z⟩, R.os⟩
  · have h := R.slot i s e
    have nq : ∀ a, s.isDat = false → (∀ ns, s ≠ .scr ns) → σ[i]? = some (some (.ref a)) → a ≠ p := fun a z z2 y w => by
      rw [w] at y
      rcases np i s e y with n | ⟨ns, n, _⟩
      · rw [n] at z; cases z
      · exact z2 ns n
    have oq : ∀ a o, fr.pt ≠ some a → s.isDat = false → (∀ ns, s ≠ .scr ns) → σ[i]? = some (some (.ref a)) → H a = some o → H' a = some o := fun a o n z z2 y e => c a o n (nq a z z2 y) e
    cases s with
    | un => trivial
    | dat d => obtain ⟨v, e, q⟩ := h; exact ⟨v, e, q.step us st⟩
    | arg ds => obtain ⟨a, xs, e1, q, n, r⟩ := h; exact ⟨a, xs, e1, oq a _ (fun z => n (.inl z)) rfl (by intro ns z; cases z) e1 q, n, r.step us st⟩
    | own ds =>
      obtain ⟨a, xs, e1, q, r⟩ := h
      exact ⟨a, xs, e1, oq a _ (fun z => (R.pt a z).2.1 ⟨i, _, e, rfl, e1⟩) rfl (by intro ns z; cases z) e1 q, r.step us st⟩
    | dct kvs =>
      obtain ⟨a, ks, e1, q, m, r⟩ := h
      exact ⟨a, ks, e1, oq a _ (fun z => (R.pt a z).2.1 ⟨i, _, e, rfl, e1⟩) rfl (by intro ns z; cases z) e1 q, m, r.step us st⟩
    | pot => exact h
    | scr ns =>
      obtain ⟨a, e1, q, n⟩ := h
      have np2 : fr.pt ≠ some a := fun z => n (.inl z)
      refine ⟨a, e1, ?_, n⟩
      by_cases ap : a = p
      · subst ap
        rcases np i _ e e1 with y | ⟨ns', y, z⟩
        · cases y
        · cases y; exact .inr z
      · rcases q with (q | ⟨u, q⟩) | q
        · exact .inl (.inl (c a _ np2 ap q))
        · exact .inl (.inr ⟨u, c a _ np2 ap q⟩)
        · exact .inr q
  · by_cases w : a = p
    · rw [w] at y; exact h' y
    · by_cases v : fr.pt = some a
      · rw [pf a v] at y; cases y
      · cases q : H a with
        | none => exact R.all a z q
        | some o => rw [c a o v w q] at y; cases y
@[simp] def lc2Go (tg : Gx) (tt : Tx) (it1 : Ax) (tg1 : Gx) (tt1 : Tx) (el : Ex) (vs vs1 : List Nat) (ρw : En) : List D → Pot → Option (List D × Pot)
  | [], π => some ([], π)
  | d :: r, π => (tg d ρw).bind fun ρ2 => (tt ρ2 π).bind fun b => if b.1 = true then (it1 ρ2 b.2).bind fun x =>
      if datAt ρ2 vs = true ∧ ownFree ρ2 vs1 = true then (lcGo tg1 tt1 el (wipeE ρ2 vs1) x.1 x.2).bind fun y => (lc2Go tg tt it1 tg1 tt1 el vs vs1 ρw r y.2).map fun z => (y.1 ++ z.1, z.2) else none
    else lc2Go tg tt it1 tg1 tt1 el vs vs1 ρw r b.2
@[simp] def xLc2 (it : Ax) (tg : Gx) (tt : Tx) (it1 : Ax) (tg1 : Gx) (tt1 : Tx) (el : Ex) (vs vs1 : List Nat) : Ex := fun ρ π => (it ρ π).bind fun x =>
  if ownFree ρ vs = true then (lc2Go tg tt it1 tg1 tt1 el vs vs1 (wipeE ρ vs) x.1 x.2).bind fun z => if z.1.length ≤ 100000 then some (.list z.1, z.2) else none else none
theorem xLc2_some {it : Ax} {tg : Gx} {tt : Tx} {it1 : Ax} {tg1 : Gx} {tt1 : Tx} {el : Ex} {vs vs1 : List Nat} {ρ : En} {π : Pot} {d : D} {π' : Pot} (e : xLc2 it tg tt it1 tg1 tt1 el vs vs1 ρ π = some (d, π')) :
    ∃ ds π1 acc, it ρ π = some (ds, π1) ∧ ownFree ρ vs = true ∧ acc.length ≤ 100000 ∧ lc2Go tg tt it1 tg1 tt1 el vs vs1 (wipeE ρ vs) ds π1 = some (acc, π') ∧ d = .list acc := by
  unfold xLc2 at e
  cases ea : it ρ π with
  | none => rw [ea] at e; cases e
  | some x =>
    rw [ea] at e
    simp only [Option.bind_some] at e
    split at e
    · rename_i c
      cases eb : lc2Go tg tt it1 tg1 tt1 el vs vs1 (wipeE ρ vs) x.1 x.2 with
      | none => rw [eb] at e; cases e
      | some y =>
        rw [eb] at e
        simp only [Option.bind_some] at e
        split at e
        · rename_i c2
          cases e; exact ⟨x.1, x.2, y.1, rfl, c, c2, eb, rfl⟩
        · cases e
    · cases e
theorem nf_lc2 {w : Bool} {wi : TI} {it : Ax} {g : TG} {tg : Gx} {t : TT} {tt : Tx} {wi1 : TI} {it1 : Ax} {g1 : TG} {tg1 : Gx} {t1 : TT} {tt1 : Tx} {te : TE} {el : Ex} {va vs vs1 : List Nat}
    (hv : ∀ i ∈ va, i ∈ vs) (hi : IF K w wi it) (hg : GF K w va g tg) (ht : TF K t tt) (hi1 : IFr K wi1 it1) (hg1 : GF K false vs1 g1 tg1) (ht1 : TF K t1 tt1) (he : EF K te el) :
    NF K (tLc2 wi g t wi1 g1 t1 te vs vs1) (xLc2 it tg tt it1 tg1 tt1 el vs vs1) := by
  refine ⟨fun fr σ H ρ π R d π' e Q q => ?_⟩
  obtain ⟨ds, π1, acc, ei, of, ln, eg, rfl⟩ := xLc2_some e
  refine hi.go fr σ H ρ π R ds π1 ei _ fun J P H1 R1 c1 ok p1 => ?_
  intro p hp
  have own1 : ∀ a, (wd fr σ ρ H1).S a → a ≠ p := fun a h z => R1.sSome h (by rw [z]; exact hp)
  have npt : fr.pt ≠ some p := fun z => own1 p (.inl (R1.pt p z).1) rfl
  refine ⟨fun i m H2 => m = ds.length - i ∧ i ≤ ds.length ∧ ∃ (π2 : Pot) (av : List V) (ad rest : List D), ChgP fr H1 H2 ∧
      (∀ a, fr.pt = some a → H2 a = some (.lst (π2.map V.int))) ∧
      H2 p = some (.lst av) ∧ DvA K H2 (fun b => (wd fr σ ρ H2).S b ∨ b = p) av ad ∧
      lc2Go tg tt it1 tg1 tt1 el vs vs1 (wipeE ρ vs) (ds.drop i) π2 = some (rest, π') ∧ ad ++ rest = acc, ⟨ds.length, by omega, Nat.zero_le _, π1, [], [], acc, .of (upN hp), fun a h => ?_, upd_same, .nil, eg, rfl⟩, ?_⟩
  · exact upN hp _ _ (R1.pt a h).2.2
  rintro i m H2 ⟨rfl, il, π2, av, ad, rest, c2, pf, ep, da, el2, ea⟩
  obtain ⟨R2, st2⟩ := R1.keep c2 hp (by rw [ep]; intro z; cases z) pf
  have P2 := ok.st _ _ R1.us p1 st2
  by_cases c : i < ds.length
  · right
    obtain ⟨d, ed, edr⟩ := drop_at c
    rw [edr] at el2
    obtain ⟨go, yl⟩ := ok.go i d (wd ⟨fun a => fr.S0 a ∨ a = p, fr.pt⟩ σ ρ H2) R2.sA P2 ed
    refine ⟨go, fun H3 => ∃ (π3 : Pot) (av : List V) (ad rest : List D), ChgP fr H1 H3 ∧
      (∀ a, fr.pt = some a → H3 a = some (.lst (π3.map V.int))) ∧
      H3 p = some (.lst av) ∧ DvA K H3 (fun b => (wd fr σ ρ H3).S b ∨ b = p) av ad ∧
      lc2Go tg tt it1 tg1 tt1 el vs vs1 (wipeE ρ vs) (ds.drop (i + 1)) π3 = some (rest, π') ∧ ad ++ rest = acc, fun H3 h3 => ⟨ds.length - (i + 1), by omega, rfl, by omega, h3⟩, ?_⟩
    intro x H3 y
    obtain ⟨k3, dx⟩ := yl x H3 y
    have R3 := R2.kp k3
    obtain ⟨Rw, ow⟩ := R3.wiped vs
    unfold lc2Go at el2
    cases etg : tg d (wipeE ρ vs) with
    | none => rw [etg] at el2; cases el2
    | some ρ2 =>
      rw [etg] at el2
      simp only [Option.bind_some] at el2
      have dxw : Dx K w H3 (wd ⟨fun a => fr.S0 a ∨ a = p, fr.pt⟩ (wipe σ vs) (wipeE ρ vs) H3).S x d := dx.weak fun a z => z.imp id (ow a)
      refine hg.go _ (wipe σ vs) H3 (wipeE ρ vs) π2 Rw x d dxw ρ2 etg _ fun σ2 R4 st4 ag4' ow4 => ?_
      have ag4 : Ag vs (wipe σ vs) σ2 := ag4'.mono hv
      refine ⟨wipe_ag ag4, ?_⟩
      have ownb : ∀ a, IsOwn σ ρ a → IsOwn σ2 ρ2 a := fun a h => by
        obtain ⟨j, s, e1, e2, e3⟩ := own_wipe of h
        have nj : j ∉ vs := fun z => by
          have := wipe_in σ vs j z
          rw [e3] at this
          split at this <;> cases this
        exact ⟨j, s, by rw [hg.ag d _ ρ2 etg j (fun z => nj (hv j z))]; exact e1, e2, by rw [ag4.2 j nj]; exact e3⟩
      have Sb : ∀ H a, (wd fr σ ρ H).S a ∨ a = p → (wd ⟨fun a => fr.S0 a ∨ a = p, fr.pt⟩ σ2 ρ2 H).S a := fun H a z => by
        rcases z with (z | z) | z
        · exact .inl (.inl z)
        · exact .inr (ownb a z)
        · exact .inl (.inr z)
      have stepA : ∀ {Ha Hb : Hp} {ws : List V} {es : List D}, (∀ b o, fr.pt ≠ some b → Ha b = some o → Hb b = some o) → DvA K Ha (fun b => (wd fr σ ρ Ha).S b ∨ b = p) ws es → DvA K Hb (fun b => (wd fr σ ρ Hb).S b ∨ b = p) ws es := fun {Ha Hb ws es} k h =>
        DvA.step (A := ⟨fun a => fr.pt = some a, fun b => (wd fr σ ρ Ha).S b ∨ b = p, Ha⟩) (B := ⟨fun a => fr.pt = some a, fun b => (wd fr σ ρ Hb).S b ∨ b = p, Hb⟩) (fun a z => .inl (.inl (R1.pt a z).1)) ⟨fun b o n z => k b o n z, fun a z => .inl z, fun a z => .inl z⟩ h
      cases ett : tt ρ2 π2 with
      | none => rw [ett] at el2; cases el2
      | some b =>
        rw [ett] at el2
        simp only [Option.bind_some] at el2
        refine ht.go _ σ2 H3 ρ2 π2 R4 b.1 b.2 ett _ fun H4 R5 c4 => ?_
        have c24 : ChgP fr H2 H4 := (ChgP.of k3).trans c4
        by_cases cb : b.1 = true
        · rw [if_pos cb] at el2 ⊢
          cases ei1 : it1 ρ2 b.2 with
          | none => rw [ei1] at el2; cases el2
          | some x1 =>
            rw [ei1] at el2
            simp only [Option.bind_some] at el2
            split at el2
            · rename_i ck
              obtain ⟨dck, of1⟩ := ck
              cases elc : lcGo tg1 tt1 el (wipeE ρ2 vs1) x1.1 x1.2 with
              | none => rw [elc] at el2; cases el2
              | some yy =>
                rw [elc] at el2
                simp only [Option.bind_some] at el2
                cases elr : lc2Go tg tt it1 tg1 tt1 el vs vs1 (wipeE ρ vs) (ds.drop (i + 1)) yy.2 with
                | none => rw [elr] at el2; cases el2
                | some z =>
                  rw [elr] at el2
                  cases el2
                  refine hi1.go _ σ2 H4 ρ2 b.2 R5 x1.1 x1.2 ei1 _ fun J1 H5 R6 c5 ok1 => ?_
                  have c25 : ChgP fr H2 H5 := c24.trans c5
                  have nop : NoP K p σ2 ρ2 := fun j s e1 e2 => by
                    by_cases jv : j ∈ vs
                    · have := List.all_eq_true.mp dck j jv
                      rw [e1] at this
                      exact .inl this
                    · have e3 : ρ[j]? = some s := by
                        rw [← wipeE_get ρ vs j jv, ← hg.ag d _ ρ2 etg j (fun z => jv (hv j z))]; exact e1
                      have e4 : σ[j]? = some (some (.ref p)) := by
                        rw [← wipe_get σ vs j jv, ← ag4.2 j jv]; exact e2
                      have sl := R1.slot j s e3
                      cases s with
                      | un => exact .inl rfl
                      | dat d => exact .inl rfl
                      | arg ds =>
                        obtain ⟨a, xs, f1, f2, _⟩ := sl
                        rw [e4] at f1; cases f1
                        have f2 : H1 p = _ := f2
                        rw [hp] at f2; cases f2
                      | own ds =>
                        obtain ⟨a, xs, f1, f2, _⟩ := sl
                        rw [e4] at f1; cases f1
                        have f2 : H1 p = _ := f2
                        rw [hp] at f2; cases f2
                      | dct ds =>
                        obtain ⟨a, xs, f1, f2, _⟩ := sl
                        rw [e4] at f1; cases f1
                        have f2 : H1 p = _ := f2
                        rw [hp] at f2; cases f2
                      | pot =>
                        obtain ⟨a, f1, f2⟩ := sl
                        rw [e4] at f1; cases f1
                        exact absurd f2 npt
                      | scr ns =>
                        obtain ⟨a, f1, f2, _⟩ := sl
                        rw [e4] at f1; cases f1
                        have f2 : SqL K H1 p _ := f2
                        rcases f2 with (f2 | ⟨u, f2⟩) | f2
                        · rw [hp] at f2; cases f2
                        · rw [hp] at f2; cases f2
                        · exact .inr ⟨ns, rfl, f2⟩
                  have pf5 : ∀ a, fr.pt = some a → H5 a = some (.lst (x1.2.map V.int)) := fun a h => (R6.pt a h).2.2
                  refine ⟨fun j k H6 => k = x1.1.length - j ∧ j ≤ x1.1.length ∧ ∃ (π6 : Pot) (av : List V) (ad rest1 : List D), (∀ b o, fr.pt ≠ some b → b ≠ p → H5 b = some o → H6 b = some o) ∧
                      (∀ a, fr.pt = some a → H6 a = some (.lst (π6.map V.int))) ∧ H6 p = some (.lst av) ∧ DvA K H6 (fun b => (wd fr σ ρ H6).S b ∨ b = p) av ad ∧
                      lcGo tg1 tt1 el (wipeE ρ2 vs1) (x1.1.drop j) π6 = some (rest1, yy.2) ∧ ad ++ (rest1 ++ z.1) = acc, ⟨x1.1.length, by omega, Nat.zero_le _, x1.2, av, ad, yy.1, fun b o _ _ h => h, pf5, c25 _ _ npt ep, stepA c25 da, elc, ea⟩, ?_⟩
                  rintro j k H6 ⟨rfl, jl, π6, av, ad, rest1, c6, pf6, ep6, da6, el6, ea6⟩
                  have R7 := R6.chgP (p := p) (.inr rfl) nop npt c6 (by rw [ep6]; intro z; cases z) pf6
                  have c16 : ChgP fr H1 H6 := fun b o n h => by
                    have nb : b ≠ p := fun q => by rw [q, hp] at h; cases h
                    exact c6 b o n nb (c25 b o n (c2 b o n h))
                  by_cases cj : j < x1.1.length
                  · right
                    obtain ⟨d1, ed1, edr1⟩ := drop_at cj
                    rw [edr1] at el6
                    obtain ⟨go1, yl1⟩ := ok1.go j d1 (wd ⟨fun a => fr.S0 a ∨ a = p, fr.pt⟩ σ2 ρ2 H6) R7.sA trivial ed1
                    refine ⟨go1, fun H7 => ∃ (π7 : Pot) (av : List V) (ad rest1 : List D), (∀ b o, fr.pt ≠ some b → b ≠ p → H5 b = some o → H7 b = some o) ∧
                      (∀ a, fr.pt = some a → H7 a = some (.lst (π7.map V.int))) ∧ H7 p = some (.lst av) ∧ DvA K H7 (fun b => (wd fr σ ρ H7).S b ∨ b = p) av ad ∧
                      lcGo tg1 tt1 el (wipeE ρ2 vs1) (x1.1.drop (j + 1)) π7 = some (rest1, yy.2) ∧ ad ++ (rest1 ++ z.1) = acc, fun H7 h7 => ⟨x1.1.length - (j + 1), by omega, rfl, by omega, h7⟩, ?_⟩
                    intro x7 H7 y7
                    obtain ⟨k7, dx7⟩ := yl1 x7 H7 y7
                    have R8 := R7.kp k7
                    obtain ⟨Rw8, ow8⟩ := R8.wiped vs1
                    unfold lcGo at el6
                    cases etg1 : tg1 d1 (wipeE ρ2 vs1) with
                    | none => rw [etg1] at el6; cases el6
                    | some ρ3 =>
                      rw [etg1] at el6
                      simp only [Option.bind_some] at el6
                      have dxw8 : Dx K false H7 (wd ⟨fun a => fr.S0 a ∨ a = p, fr.pt⟩ (wipe σ2 vs1) (wipeE ρ2 vs1) H7).S x7 d1 := dx7.weak fun a z => z.imp id (ow8 a)
                      refine hg1.go _ (wipe σ2 vs1) H7 (wipeE ρ2 vs1) π6 Rw8 x7 d1 dxw8 ρ3 etg1 _ fun σ3 R9 st9 ag9 ow9 => ?_
                      refine ⟨wipe_ag ag9, ?_⟩
                      have ownb3 : ∀ a, IsOwn σ ρ a → IsOwn σ3 ρ3 a := fun a h => by
                        obtain ⟨j, s, e1, e2, e3⟩ := own_wipe of1 (ownb a h)
                        have nj : j ∉ vs1 := fun z => by
                          have := wipe_in σ2 vs1 j z
                          rw [e3] at this
                          split at this <;> cases this
                        exact ⟨j, s, by rw [hg1.ag d1 _ ρ3 etg1 j nj]; exact e1, e2, by rw [ag9.2 j nj]; exact e3⟩
                      have Sb3 : ∀ H a, (wd fr σ ρ H).S a ∨ a = p → (wd ⟨fun a => fr.S0 a ∨ a = p, fr.pt⟩ σ3 ρ3 H).S a := fun H a z => by
                        rcases z with (z | z) | z
                        · exact .inl (.inl z)
                        · exact .inr (ownb3 a z)
                        · exact .inl (.inr z)
                      cases ett1 : tt1 ρ3 π6 with
                      | none => rw [ett1] at el6; cases el6
                      | some b1 =>
                        rw [ett1] at el6
                        simp only [Option.bind_some] at el6
                        refine ht1.go _ σ3 H7 ρ3 π6 R9 b1.1 b1.2 ett1 _ fun H8 R10 c8 => ?_
                        have c68 : ChgP fr H6 H8 := (ChgP.of k7).trans c8
                        by_cases cb1 : b1.1 = true
                        · rw [if_pos cb1] at el6 ⊢
                          cases eel : el ρ3 b1.2 with
                          | none => rw [eel] at el6; cases el6
                          | some yv =>
                            rw [eel] at el6
                            simp only [Option.bind_some] at el6
                            cases elr6 : lcGo tg1 tt1 el (wipeE ρ2 vs1) (x1.1.drop (j + 1)) yv.2 with
                            | none => rw [elr6] at el6; cases el6
                            | some z6 =>
                              rw [elr6] at el6
                              obtain ⟨h1, h2⟩ := Prod.mk.inj (Option.some.inj el6)
                              subst h1
                              refine he.go _ σ3 H8 ρ3 b1.2 R10 yv.1 yv.2 eel _ fun v H9 R11 c9 dv => ?_
                              have c69 : ChgP fr H6 H9 := c68.trans c9
                              refine ⟨av, c69 _ _ npt ep6, szLt (by rw [da6.length]; have := congrArg List.length ea6; simp at this; omega), ?_⟩
                              have f4 : DvA K H9 (fun b => (wd fr σ ρ H9).S b ∨ b = p) av ad := stepA c69 da6
                              have up : ∀ {ws : List V} {es : List D}, DvA K H9 (fun b => (wd fr σ ρ H9).S b ∨ b = p) ws es → DvA K (upd H9 p (.lst (av ++ [v]))) (fun b => (wd fr σ ρ (upd H9 p (.lst (av ++ [v])))).S b ∨ b = p) ws es := fun h =>
                                DvA.step (A := ⟨fun a => a = p, fun b => (wd fr σ ρ H9).S b ∨ b = p, H9⟩) (B := ⟨fun a => a = p, fun b => (wd fr σ ρ (upd H9 p (.lst (av ++ [v])))).S b ∨ b = p, upd H9 p (.lst (av ++ [v]))⟩) (fun a z => .inr z)
                                  ⟨fun b o n z => by show upd H9 p _ b = _; rw [upd_ne n]; exact z, fun a z => .inl z, fun a z => .inl z⟩ h
                              refine ⟨yv.2, av ++ [v], ad ++ [yv.1], z6.1, fun b o n w h => ?_, fun a h => ?_, upd_same, up (f4.append (.cons (dv.weak fun a w => Sb3 H9 a w) .nil)), by rw [elr6, ← h2], by simp [List.append_assoc] at ea6 ⊢; exact ea6⟩
                              · rw [upd_ne w]
                                exact c69 b o n (c6 b o n w h)
                              · rw [upd_ne (fun q => npt (by rw [← q]; exact h))]; exact (R11.pt a h).2.2
                        · rw [if_neg cb1] at el6 ⊢
                          exact ⟨b1.2, av, ad, rest1, fun b o n w h => c68 b o n (c6 b o n w h), fun a h => (R10.pt a h).2.2, c68 _ _ npt ep6, stepA c68 da6, el6, ea6⟩
                  · left
                    refine ⟨ok1.stop j (wd ⟨fun a => fr.S0 a ∨ a = p, fr.pt⟩ σ2 ρ2 H6) trivial (by omega), ?_⟩
                    have ie : j = x1.1.length := by omega
                    rw [ie, List.drop_length] at el6
                    unfold lcGo at el6
                    cases el6
                    exact ⟨_, av, ad, z.1, c16, pf6, ep6, da6, elr, by simpa using ea6⟩
            · cases el2
        · rw [if_neg cb] at el2 ⊢
          exact ⟨b.2, av, ad, rest, c2.trans c24, fun a h => (R5.pt a h).2.2, c24 _ _ npt ep, stepA c24 da, el2, ea⟩
  · left
    have ie : i = ds.length := by omega
    refine ⟨ok.stop i (wd ⟨fun a => fr.S0 a ∨ a = p, fr.pt⟩ σ ρ H2) P2 (by omega), ?_⟩
    rw [ie, List.drop_length] at el2
    unfold lc2Go at el2
    cases el2
    rw [List.append_nil] at ea
    subst ea
    have R5 : Rel K fr σ H2 ρ _ := R1.chg c2 pf
    exact q _ H2 R5 (c1.trans c2) ⟨p, av, ad, rfl, rfl, R1.back c1 hp, ep, fun z => own1 p z rfl, da⟩
end FL

noncomputable section
namespace FL
open PySem PySem.Spec PyProof.Rows L2 EP
variable {K : PySem.W.Frag}
/-! ### sorted(..) of a list of data that can be told apart -/
open PySem.W (dataLt dataLe alike alikeAll keyToks EachIs)
mutual
def deqD : D → D → Bool
  | .none, .none => true
  | .bool a, .bool b => a == b
  | .int a, .int b => decide (a = b)
  | .str a, .str b => decide (a.cps.toList = b.cps.toList)
  | .list xs, .list ys => deqAll xs ys
  | .tuple xs, .tuple ys => deqAll xs ys
  | _, _ => false
def deqAll : List D → List D → Bool
  | [], [] => true
  | x :: xs, y :: ys => deqD x y && deqAll xs ys
  | _, _ => false
end
mutual
theorem deqD_eq : ∀ (a b : D), deqD a b = true → a = b
  | .none, b, h => by cases b <;> first | rfl | (simp [deqD] at h)
  | .bool x, b, h => by cases b <;> simp [deqD] at h; rw [h]
  | .int x, b, h => by cases b <;> simp [deqD] at h; rw [h]
  | .str x, b, h => by
    cases b <;> try (simp [deqD] at h; done)
    rename_i y
    have h : decide (x.cps.toList = y.cps.toList) = true := by simpa [deqD] using h
    rw [PySem.W.str_of_cps (of_decide_eq_true h)]
  | .list xs, b, h => by
    cases b <;> try (simp [deqD] at h; done)
    rename_i ys
    have h : deqAll xs ys = true := by simpa [deqD] using h
    rw [deqAll_eq xs ys h]
  | .tuple xs, b, h => by
    cases b <;> try (simp [deqD] at h; done)
    rename_i ys
    have h : deqAll xs ys = true := by simpa [deqD] using h
    rw [deqAll_eq xs ys h]
  | .dict _, b, h => by cases b <;> simp [deqD] at h
theorem deqAll_eq : ∀ (xs ys : List D), deqAll xs ys = true → xs = ys
  | [], [], _ => rfl
  | [], _ :: _, h => by simp [deqAll] at h
  | _ :: _, [], h => by simp [deqAll] at h
  | x :: xs, y :: ys, h => by
    have h : (deqD x y && deqAll xs ys) = true := by simpa [deqAll] using h
    rw [Bool.and_eq_true] at h
    rw [deqD_eq x y h.1, deqAll_eq xs ys h.2]
end
def tupNE : D → Bool
  | .tuple (_ :: _) => true
  | _ => false
def noTup : D → Bool
  | .tuple _ => false
  | .none => false
  | _ => true
/-- the data can be compared, place by place, and told apart -/
def sdOk (ds : List D) : Bool := decide (ds.length ≤ 100000) && (ds.all fun d => SeqAt.shaped d) && (ds.all tupNE || ds.all noTup) && (ds.all fun a => ds.all fun b => alike a b && (deqD a b || dataLt a b || dataLt b a))
def insD (a : D) : List D → List D
  | [] => [a]
  | b :: r => if dataLt b a = false then a :: b :: r else b :: insD a r
def sortD : List D → List D
  | [] => []
  | a :: r => insD a (sortD r)
theorem insD_perm (a : D) : ∀ r : List D, (insD a r).Perm (a :: r)
  | [] => .refl _
  | b :: r => by
    unfold insD
    split
    · exact .refl _
    · exact ((insD_perm a r).cons b).trans (.swap ..)
theorem lt_le {a b c : D} (h : dataLt b a = false) (g : dataLt c b = false) : dataLt c a = false := by
  cases e : dataLt c a with
  | false => rfl
  | true =>
    unfold dataLt at h g e
    rcases lex_negTrans _ (keyToks b) _ e with z | z
    · rw [z] at g; cases g
    · rw [z] at h; cases h
theorem lt_asymm {a b : D} (h : dataLt a b = true) : dataLt b a = false := by
  cases e : dataLt b a with
  | false => rfl
  | true =>
    unfold dataLt at h e
    have := lex_trans _ _ _ h e
    rw [lex_irrefl] at this
    cases this
theorem insD_up (a : D) : ∀ r : List D, (r.Pairwise fun a b => dataLt b a = false) → (insD a r).Pairwise fun a b => dataLt b a = false
  | [], _ => by simp [insD]
  | b :: r, h => by
    unfold insD
    have h2 := List.pairwise_cons.mp h
    split
    · rename_i c
      exact List.pairwise_cons.mpr ⟨fun x hx => by
        rcases List.mem_cons.mp hx with rfl | hx
        · exact c
        · exact lt_le c (h2.1 x hx), h⟩
    · rename_i c
      refine List.pairwise_cons.mpr ⟨fun x hx => ?_, insD_up a r h2.2⟩
      rcases List.mem_cons.mp ((insD_perm a r).mem_iff.mp hx) with rfl | hx
      · exact lt_asymm (by simpa using c)
      · exact h2.1 x hx
theorem sortD_spec : ∀ ts : List D, (sortD ts).Perm ts ∧ (sortD ts).Pairwise fun a b => dataLt b a = false
  | [] => ⟨.refl _, .nil⟩
  | a :: r => ⟨(insD_perm a _).trans ((sortD_spec r).1.cons a), insD_up a _ (sortD_spec r).2⟩
theorem sortD_of {xs ds : List D} (ok : sdOk ds = true) (p : xs.Perm ds) (a : xs.Pairwise fun a b => dataLt b a = false) : sortD ds = xs := by
  obtain ⟨p2, s2⟩ := sortD_spec ds
  unfold sdOk at ok
  rw [Bool.and_eq_true] at ok
  refine (p2.trans p.symm).eq_of_pairwise (fun x y hx hy h1 h2 => ?_) s2 a
  have := List.all_eq_true.mp (List.all_eq_true.mp ok.2 x (p2.mem_iff.mp hx)) y (p.mem_iff.mp hy)
  rw [h1, h2] at this
  simp only [Bool.and_eq_true, Bool.or_false] at this
  exact deqD_eq x y this.2
def rSortD (K : PySem.W.Frag) : List V → Hp → VK → Prop := fun vs H Q => ∃ (a : Addr) (L : List (V × D)), vs = [V.ref a] ∧ SqL K H a (L.map (·.1)) ∧ (∀ p ∈ L, Dp K H p.1 p.2) ∧ sdOk (L.map (·.2)) = true ∧
  ∀ (M : List (V × D)) (p : Addr), M.Perm L → M.map (·.2) = sortD (L.map (·.2)) → H p = none → Q (.ref p) (upd H p (.lst (M.map (·.1))))
theorem eachOf {s : Shared} : ∀ {L : List (V × D)} {us : List Value}, Vals (L.map (·.1)) us → EachIs (fun u (p : V × D) => RelV p.1 u) us L
  | [], _, h => by
    have h : Vals [] _ := h
    cases h; exact .nil
  | p :: L, _, h => by
    have h : Vals (p.1 :: L.map (·.1)) _ := h
    cases h with
    | cons r t => exact .cons r (eachOf (s := s) t)
theorem valsOf : ∀ {L : List (V × D)} {us : List Value}, EachIs (fun u (p : V × D) => RelV p.1 u) us L → Vals (L.map (·.1)) us
  | _, _, .nil => .nil
  | _, _, .cons r t => .cons r (valsOf t)
theorem eachAnd {α β : Type} {R S : α → β → Prop} : ∀ {as : List α} {bs : List β}, EachIs R as bs → (∀ a b, b ∈ bs → R a b → S a b) → EachIs S as bs
  | _, _, .nil, _ => .nil
  | _, _, .cons r t, h => .cons (h _ _ List.mem_cons_self r) (eachAnd t fun a b m => h a b (List.mem_cons_of_mem _ m))
theorem cr_sortD {X : Cx} (hu : X.A.units + 66 < cLine) : CallR X (.builtin "sorted") (rSortD X.K) := by
  intro pins s σ H vs us Q I r h
  obtain ⟨a, L, rfl, hs, hL, ok, q⟩ := h
  rw [Vals.ref1 r]
  obtain ⟨its, rv, hl, hz⟩ := I.list hs
  have ok0 := ok
  unfold sdOk at ok
  simp only [Bool.and_eq_true] at ok
  obtain ⟨⟨⟨o1, o2⟩, o3⟩, o4⟩ := ok
  have each := eachOf (s := s) rv
  have er : EachIs (fun v (b : V × D) => ∃ as, Reads s.heap v b.2 as) its L := eachAnd each fun u p m rr => Dp.reads I p.2 p.1 u (hL p m) rr
  have al : ∀ x ∈ L.map (·.2), ∀ y ∈ L.map (·.2), alike x y = true := fun x hx y hy => by
    have := List.all_eq_true.mp (List.all_eq_true.mp o4 x hx) y hy
    rw [Bool.and_eq_true] at this
    exact this.1
  have ln : L.length ≤ sizeLine := by
    have := of_decide_eq_true o1
    rw [List.length_map] at this
    rw [sizeLine_eq]; omega
  refine PySem.W.sorted_data (bs := L) (enc := fun p : V × D => p.2) (R := fun u (p : V × D) => RelV p.1 u) hl.isList each er al ?_ ln (fun b hb => ?_) fun out ho eo => ?_
  · rw [Bool.or_eq_true] at o3
    rcases o3 with z | z
    · refine .inl fun d hd => ?_
      have := List.all_eq_true.mp z d hd
      cases d with
      | tuple xs => cases xs with
        | nil => cases this
        | cons x r => exact ⟨x, r, rfl⟩
      | _ => cases this
    · refine .inr fun d hd => ?_
      have := List.all_eq_true.mp z d hd
      cases d with
      | tuple xs => cases this
      | none => cases this
      | _ => exact ⟨(fun z => by cases z), (fun xs z => by cases z)⟩
  · have h1 : (b.2.canLay0 && decide (b.2.depth ≤ 64)) = true := List.all_eq_true.mp o2 b.2 (List.mem_map.mpr ⟨b, hb, rfl⟩)
    rw [Bool.and_eq_true] at h1
    have := of_decide_eq_true h1.2
    show X.A.units + 2 + b.2.depth < cLine
    omega
  · have pm : (L.mergeSort (dataLe false fun p : V × D => p.2)).Perm L := List.mergeSort_perm _ _
    have sm : (L.mergeSort (dataLe false fun p : V × D => p.2)).Pairwise fun x y => dataLt y.2 x.2 = false := by
      have h := List.pairwise_mergeSort (le := dataLe false fun p : V × D => p.2) (fun a b c h1 h2 => by
        rw [PySem.W.dataLe_eq] at *
        simp only [cond_false, Bool.not_eq_true'] at *
        exact lt_le h1 h2) (fun a b => by
        rw [PySem.W.dataLe_eq]
        simp only [cond_false]
        cases e : dataLt b.2 a.2 with
        | false => rfl
        | true => rw [lt_asymm e]; rfl) L
      refine h.imp fun h => ?_
      rw [PySem.W.dataLe_eq] at h
      simpa only [cond_false, Bool.not_eq_true'] using h
    have e3 := sortD_of ok0 (pm.map (·.2)) (List.pairwise_map.mpr sm)
    have hl2 : ((L.mergeSort (dataLe false fun p : V × D => p.2)).map (·.1)).length ≤ sizeLine := by
      rw [List.length_map, pm.length_eq]; exact ln
    obtain ⟨ep, he'⟩ := sortedAll_at s.heap its (List.toArray out)
    exact ⟨.ref _, upd H (s.heap.objs.size + 1) (.lst ((L.mergeSort (dataLe false fun p : V × D => p.2)).map (·.1))), I.laid (t' := s.toks) (fun b o e => sortedAll_old e) (Nat.le_succ _) ⟨hl2, out, ep, valsOf eo, he'⟩, rfl, q _ _ pm e3.symm (I.hok.fresh (Nat.le_succ _))⟩
def sortYF : F1 := fun ds => match sortXF ds with
  | some d => some d
  | none => match ds with
    | [.list a] => if sdOk a = true then some (.list (sortD a)) else none
    | _ => none
def rSortY (K : PySem.W.Frag) : List V → Hp → VK → Prop := fun vs H Q => rSortX K vs H Q ∨ rSortD K vs H Q
theorem cr_sortY {X : Cx} (hu : X.A.units + 66 < cLine) : CallR X (.builtin "sorted") (rSortY X.K) := by
  intro pins s σ H vs us Q I r h
  rcases h with h | h
  · exact cr_sortX pins s σ H vs us Q I r h
  · exact cr_sortD hu pins s σ H vs us Q I r h
theorem cn_sortY : CN K (rSortY K) sortYF := ⟨fun fr H S al vs ds hx d e Q q => by
  unfold sortYF at e
  split at e
  · rename_i d' e9
    cases e
    exact .inl (cn_sortX.go fr H S al vs _ hx _ e9 Q q)
  · split at e
    · rename_i a e9
      split at e
      · rename_i c
        cases e
        obtain ⟨v, rfl, h⟩ := dbA1 hx
        obtain ⟨p, xs, rfl, ep, rp⟩ := h.list
        have ln : xs.length = a.length := rp.length
        have each : ∀ z ∈ xs.zip a, Dv K H S z.1 z.2 := fun z hz => by
          obtain ⟨i, hi, rfl⟩ := List.mem_iff_getElem.mp hz
          rw [List.length_zip] at hi
          rw [List.getElem_zip]
          obtain ⟨v, ev, dv⟩ := rp.get (i := i) (d := a[i]'(by omega)) (List.getElem?_eq_getElem (by omega))
          rw [List.getElem?_eq_getElem (by omega)] at ev
          cases ev
          exact dv
        have f1 : (xs.zip a).map Prod.fst = xs := List.map_fst_zip (by omega)
        have f2 : (xs.zip a).map Prod.snd = a := List.map_snd_zip (by omega)
        have c2 := c
        unfold sdOk at c2
        simp only [Bool.and_eq_true] at c2
        refine .inr ⟨p, xs.zip a, rfl, by rw [f1]; exact sqL ep, fun z hz => ?_, by rw [f2]; exact c, fun M l pm so hl => ?_⟩
        · have hm : z.2 ∈ a := by
            rw [← f2]; exact List.mem_map_of_mem hz
          exact (each z hz).dp (shaped_lay (List.all_eq_true.mp c2.1.1.2 _ hm))
        · rw [f2] at so
          rw [← so] at q
          exact q _ _ (upN hl) (dnNew al hl (dvA_of Prod.fst Prod.snd fun z hz => each z (pm.mem_iff.mp hz)))
      · cases e
    · cases e⟩
end FL

noncomputable section
namespace FL
open PySem PySem.Spec PyProof.Rows L2 EP
variable {K : PySem.W.Frag}
/-! ### a, b, c = a list -/
@[simp] def gL (n : Nat) (g : List D → En → Option En) : Gx := fun d ρ => match d with
  | .list ds => if ds.length = n then g ds ρ else none
  | _ => none
theorem gf_lst {vs : List Nat} {n : Nat} {u : TGs} {g : List D → En → Option En} (h : GsF K vs u g) : GF K false vs (gUnl K n u) (gL n g) := by
  refine ⟨fun d ρ ρ' e j m => (by
    unfold gL at e
    split at e
    · split at e
      · exact h.ag _ ρ ρ' e j m
      · cases e
    · cases e), fun fr σ H ρ π R v d dv ρ' e Q q => ?_⟩
  unfold gL at e
  split at e
  · split at e
    · rename_i ds l
      have dv := dv.dv
      cases dv with
      | lst e1 n r => exact ⟨_, _, rfl, sqL e1, by rw [r.length]; exact l, h.go fr σ H ρ π R _ ds r ρ' e Q q⟩
    · cases e
  · cases e
end FL


noncomputable section
namespace FL
open PySem PySem.Spec PyProof.Rows L2 EP
/-! ### dicts of truths: the keys that were put, once each -/
def kvB (us : List Int) : List (Key × D) := us.map fun u => ((Sum.inl u : Key), PyData.bool true)
def addN (us : List Int) (n : Int) : List Int := if n ∈ us then us else us ++ [n]
theorem putB (us : List Int) (n : Int) : putG (kvB us) (Sum.inl n) (.bool true) = kvB (addN us n) := by
  have e : ((kvB us).any fun kv => decide (kv.1 = (Sum.inl n : Key))) = decide (n ∈ us) := by
    unfold kvB
    rw [List.any_map]
    induction us with
    | nil => simp
    | cons a r ih =>
      rw [List.any_cons, ih]
      by_cases h : a = n
      · simp [h]
      · have h2 : n ≠ a := fun z => h z.symm
        simp [h, h2]
  unfold putG addN
  rw [e]
  by_cases h : n ∈ us
  · rw [if_pos (by simpa using h), if_pos h]
    unfold kvB
    rw [List.map_map]
    refine List.map_congr_left fun u _ => ?_
    by_cases c : u = n
    · subst c; simp
    · simp [c]
  · rw [if_neg (by simpa using h), if_neg h]
    simp [kvB]
theorem addN_nodup {us : List Int} (h : us.Nodup) (n : Int) : (addN us n).Nodup := by
  unfold addN
  split
  · exact h
  · rename_i c
    rw [List.nodup_append]
    refine ⟨h, by simp, fun a ha b hb => ?_⟩
    rw [List.mem_singleton] at hb
    subst hb
    exact fun z => c (z ▸ ha)
theorem mem_addN {us : List Int} {n j : Int} : j ∈ addN us n ↔ j ∈ us ∨ j = n := by
  unfold addN
  split
  · rename_i c
    exact ⟨.inl, fun h => h.elim id fun z => z ▸ c⟩
  · simp
theorem addN_len {us : List Int} {n : Int} : (addN us n).length ≤ us.length + 1 := by
  unfold addN
  split <;> simp
theorem kvB_len (us : List Int) : (kvB us).length = us.length := by simp [kvB]
theorem keysB (us : List Int) : (kvB us).map (fun kv => keyV kv.1) = us.map PyData.int := by
  unfold kvB
  rw [List.map_map]
  rfl
theorem sortI_uniq {us ns : List Int} (nd : us.Nodup) (h : ∀ j, j ∈ us ↔ j ∈ ns) : sortI us = srtU ns := by
  obtain ⟨p, s⟩ := sortI_spec us
  have nd2 : (sortI us).Nodup := p.nodup_iff.mpr nd
  refine rise_uniq ((s.and nd2).imp fun h => by omega) (pw_srtU ns) fun j => ?_
  rw [p.mem_iff, mem_srtU, h j]
theorem tk_succ {α : Type} {xs : List α} {i : Nat} {x : α} (h : xs[i]? = some x) : xs.take (i + 1) = xs.take i ++ [x] := by
  rw [List.take_succ, h]; rfl
theorem rg_ints (n : Nat) : rg 0 n = (List.range n).map fun i => PyData.int ((i : Nat) : Int) := by
  unfold rg
  exact List.map_congr_left fun i _ => by rw [Int.zero_add]
/-- a comprehension that the set takes -/
theorem xSc_eq {it : Ax} {tg : Gx} {tt : Tx} {el : Ex} {vs : List Nat} {ρ : En} {π π' : Pot} {ns : List Int} (h : xLc it tg tt el vs ρ π = some (.list (ns.map PyData.int), π')) (h4 : ns.length ≤ 4000) (h64 : (srtU ns).length < 64) :
    xSc it tg tt el vs ρ π = some (.list ((srtU ns).map PyData.int), π') := by
  unfold xSc
  rw [h]
  simp [intsO_map, h4, h64]
theorem lc_ints {tg : Gx} {el : Ex} {ρw : En} {π : Pot} (f : Int → Int) : ∀ ns : List Int, (∀ n ∈ ns, ∃ ρ2, tg (.int n) ρw = some ρ2 ∧ el ρ2 π = some (.int (f n), π)) → lcGo tg xYes el ρw (ns.map PyData.int) π = some ((ns.map f).map PyData.int, π)
  | [], _ => rfl
  | n :: r, h => by
    obtain ⟨ρ2, e1, e2⟩ := h n List.mem_cons_self
    have ih := lc_ints f r fun d hd => h d (List.mem_cons_of_mem _ hd)
    show lcGo tg xYes el ρw (.int n :: r.map PyData.int) π = _
    unfold lcGo
    rw [e1]
    simp only [Option.bind_some, xYes, if_true]
    rw [e2]
    simp only [Option.bind_some]
    rw [ih]
    rfl
/-! ### pairs of whole numbers are plain data -/
theorem shp_rowsA : ∀ ps : List (Int × Int), PyData.canLayAll0 (rowsP ps) = true ∧ PyData.depthAll (rowsP ps) ≤ 1
  | [] => ⟨rfl, by simp [rowsP, PyData.depthAll]⟩
  | q :: r => by
    obtain ⟨a, b⟩ := shp_rowsA r
    have e : rowsP (q :: r) = .tuple [.int q.1, .int q.2] :: rowsP r := rfl
    rw [e]
    refine ⟨?_, ?_⟩
    · show ((PyData.tuple [.int q.1, .int q.2]).canLay0 && PyData.canLayAll0 (rowsP r)) = true
      rw [a]; rfl
    · show max (PyData.tuple [.int q.1, .int q.2]).depth (PyData.depthAll (rowsP r)) ≤ 1
      have : (PyData.tuple [.int q.1, .int q.2]).depth = 1 := by simp [PyData.depth, PyData.depthAll]
      omega
theorem shp_rows (ps : List (Int × Int)) : SeqAt.shaped (.tuple (rowsP ps)) = true := by
  obtain ⟨a, b⟩ := shp_rowsA ps
  have : decide ((PyData.tuple (rowsP ps)).depth ≤ 64) = true := decide_eq_true (by show PyData.depthAll (rowsP ps) + 1 ≤ 64; omega)
  show (PyData.canLayAll0 (rowsP ps) && decide ((PyData.tuple (rowsP ps)).depth ≤ 64)) = true
  rw [a, this]; rfl
theorem eqF_nil (ps : List (Int × Int)) : eqF false (.tuple (rowsP ps)) (.tuple []) = some (.bool (decide (ps = []))) := by
  have s0 : SeqAt.shaped (.tuple []) = true := rfl
  have e : eqF false (.tuple (rowsP ps)) (.tuple []) = if SeqAt.shaped (.tuple (rowsP ps)) = true ∧ SeqAt.shaped (.tuple []) = true then some (.bool (PyData.eqv (.tuple (rowsP ps)) (.tuple []))) else none := rfl
  rw [e, if_pos ⟨shp_rows ps, s0⟩]
  cases ps with
  | nil => rfl
  | cons q r => rfl
end FL

noncomputable section
namespace FL
open PySem PySem.Spec PyProof.Rows L2 EP
/-! ### small things that repr shows -/
def Sm (d : D) : Prop := d = .none ∨ (∃ b, d = .bool b) ∨ ∃ i : Int, d = .int i ∧ i.natAbs < 2 ^ 60
theorem Sm.none : Sm .none := .inl rfl
theorem Sm.bool (b : Bool) : Sm (.bool b) := .inr (.inl ⟨b, rfl⟩)
theorem Sm.int {i : Int} (h : i.natAbs < 2 ^ 60) : Sm (.int i) := .inr (.inr ⟨i, rfl, h⟩)
theorem Sm.ok {d : D} (h : Sm d) (f : Nat) : okE (f + 1) d = true ∧ nodes d ≤ 1 := by
  rcases h with rfl | ⟨b, rfl⟩ | ⟨i, rfl, h0⟩
  · exact ⟨by simp [okE], by simp [nodes]⟩
  · exact ⟨by simp [okE], by simp [nodes]⟩
  · have : i.natAbs.log2 < 64 := log2Lt (by decide) (Nat.lt_of_lt_of_le h0 (by decide))
    exact ⟨by simp [okE]; omega, by simp [nodes]⟩
theorem repr_two {a b : D} (ha : Sm a) (hb : Sm b) : ∃ s, reprF [.list [a, b]] = some (.str s) := by
  obtain ⟨a1, a2⟩ := ha.ok 2
  obtain ⟨b1, b2⟩ := hb.ok 2
  have ok : okE 4 (.list [a, b]) = true := by
    show (okE 3 a && (okE 3 b && true)) = true
    rw [show okE 3 a = true from a1, show okE 3 b = true from b1]; rfl
  have nd : nodes (.list [a, b]) ≤ 6000 := by
    simp [nodes, nodesAll]
    omega
  have r : repOk (.list [a, b]) = true := by
    unfold repOk
    rw [okE_mono 4 60 _ (by decide) ok, decide_eq_true nd]; rfl
  refine ⟨(PyData.list [a, b]).shown, ?_⟩
  have e : reprF [.list [a, b]] = if repOk (.list [a, b]) = true then some (.str (PyData.list [a, b]).shown) else none := rfl
  rw [e, if_pos r]
theorem repr_one {a : D} (ha : Sm a) : ∃ s, reprF [a] = some (.str s) := by
  obtain ⟨a1, a2⟩ := ha.ok 3
  have r : repOk a = true := by
    unfold repOk
    rw [okE_mono 4 60 _ (by decide) a1, decide_eq_true (show nodes a ≤ 6000 by omega)]; rfl
  refine ⟨a.shown, ?_⟩
  have e : reprF [a] = if repOk a = true then some (.str a.shown) else none := by
    rcases ha with rfl | ⟨b, rfl⟩ | ⟨i, rfl, h0⟩ <;> rfl
  rw [e, if_pos r]
theorem shp_intsT (ns : List Int) : SeqAt.shaped (.tuple (ns.map PyData.int)) = true := by
  obtain ⟨a, b⟩ := shpI_all ns
  have : decide ((PyData.tuple (ns.map PyData.int)).depth ≤ 64) = true := decide_eq_true (by show PyData.depthAll (ns.map PyData.int) + 1 ≤ 64; omega)
  show (PyData.canLayAll0 (ns.map PyData.int) && decide ((PyData.tuple (ns.map PyData.int)).depth ≤ 64)) = true
  rw [a, this]; rfl
theorem rowI_ints (N : Nat) (f : Nat → Int) : rowI N f = ((List.range N).map f).map PyData.int := by
  unfold rowI
  rw [List.map_map]; rfl
theorem shp_rowI (N : Nat) (f : Nat → Int) : SeqAt.shaped (.list (rowI N f)) = true := by
  rw [rowI_ints]; exact shp_ints _
theorem cnt_t (ns : List Int) (k : Int) : cntT (.tuple (ns.map PyData.int)) (.int k) = some (.int (ns.count k : Nat)) := by
  simp [cntT, cntF, intsO_map]
theorem cnt_l (ns : List Int) (k : Int) : cntL (.list (ns.map PyData.int)) (.int k) = some (.int (ns.count k : Nat)) := by
  simp [cntL, cntF, intsO_map]
end FL

noncomputable section
namespace FL
open PySem PySem.Spec PyProof.Rows L2 EP
/-! ### dicts of powers: sums, canonical lists -/
abbrev PsM := List (Int × Int)
def kvD (qs : PsM) : List (Key × D) := qs.map fun q => (Sum.inl q.1, .int q.2)
def kI (qs : PsM) : List (Key × Int) := qs.map fun q => (Sum.inl q.1, q.2)
def vl (qs : PsM) (s : Int) : Int := ((qs.find? fun q => decide (q.1 = s)).map Prod.snd).getD 0
def putP (qs : PsM) (s p : Int) : PsM := if (qs.any fun q => decide (q.1 = s)) = true then qs.map (fun q => if q.1 = s then (q.1, p) else q) else qs ++ [(s, p)]
theorem inl_iff {a b : Int} : ((Sum.inl a : Key) = Sum.inl b) ↔ a = b := ⟨fun z => by injection z, fun z => by rw [z]⟩
theorem put_gen {α : Type} (f : Int → α) (qs : PsM) (s p : Int) : putG (qs.map fun q => ((Sum.inl q.1 : Key), f q.2)) (Sum.inl s) (f p) = (putP qs s p).map fun q => ((Sum.inl q.1 : Key), f q.2) := by
  unfold putG putP
  have a : ((qs.map fun q => ((Sum.inl q.1 : Key), f q.2)).any fun kv => decide (kv.1 = Sum.inl s)) = qs.any fun q => decide (q.1 = s) := by
    rw [List.any_map]
    congr 1
    funext q
    show decide ((Sum.inl q.1 : Key) = Sum.inl s) = decide (q.1 = s)
    rw [decide_eq_decide]; exact inl_iff
  rw [a]
  split
  · rw [List.map_map, List.map_map]
    refine List.map_congr_left fun q _ => ?_
    show (if (Sum.inl q.1 : Key) = Sum.inl s then _ else _) = ((Sum.inl (if q.1 = s then (q.1, p) else q).1 : Key), f (if q.1 = s then (q.1, p) else q).2)
    by_cases e : q.1 = s
    · rw [if_pos (inl_iff.mpr e), if_pos e]
    · rw [if_neg fun z => e (inl_iff.mp z), if_neg e]
  · rw [List.map_append]; rfl
theorem put_kvD (qs : PsM) (s p : Int) : putG (kvD qs) (Sum.inl s) (.int p) = kvD (putP qs s p) := put_gen PyData.int qs s p
theorem put_kI (qs : PsM) (s p : Int) : putG (kI qs) (Sum.inl s) p = kI (putP qs s p) := put_gen id qs s p
def dk (q1 : PsM) : PsM := q1.foldl (fun acc q => putP acc q.1 q.2) []
theorem mI_dk (q1 : PsM) : mI (kI q1) = kI (dk q1) := by
  have : ∀ (l acc : PsM), (kI l).foldl (fun acc kv => putG acc kv.1 kv.2) (kI acc) = kI (l.foldl (fun acc q => putP acc q.1 q.2) acc) := by
    intro l
    induction l with
    | nil => intro acc; rfl
    | cons q l ih =>
      intro acc
      show (kI l).foldl _ (putG (kI acc) (Sum.inl q.1) q.2) = _
      rw [put_kI, ih]
      rfl
  exact this q1 []
theorem kvI_kI (qs : PsM) : kvI (kI qs) = kvD qs := by
  unfold kvI kI kvD
  rw [List.map_map]; rfl
theorem prI_rows : ∀ q1 : PsM, prI (rowsP q1) = some (kI q1)
  | [] => rfl
  | q :: r => by
    show (keyD (.int q.1)).bind (fun key => (prI (rowsP r)).map fun l => (key, q.2) :: l) = _
    rw [prI_rows r]; rfl
theorem val_gen : ∀ (qs : PsM) (s : Int), valG (kvD qs) (Sum.inl s) = (qs.find? fun q => decide (q.1 = s)).map fun q => .int q.2
  | [], s => rfl
  | q :: qs, s => by
    have ih := val_gen qs s
    by_cases c : q.1 = s
    · rw [List.find?_cons_of_pos (by simp [c])]
      subst c
      simp [valG, kvD]
    · rw [List.find?_cons_of_neg (by simp [c]), ← ih]
      have ne : ¬ ((Sum.inl q.1 : Key) = Sum.inl s) := fun z => c (inl_iff.mp z)
      simp [valG, kvD, c]
theorem val_get (qs : PsM) (s : Int) : (valG (kvD qs) (Sum.inl s)).getD (.int 0) = .int (vl qs s) := by
  rw [val_gen]
  unfold vl
  cases qs.find? fun q => decide (q.1 = s) <;> rfl
theorem val_mem {qs : PsM} {s : Int} (h : s ∈ qs.map Prod.fst) : valG (kvD qs) (Sum.inl s) = some (.int (vl qs s)) := by
  rw [val_gen]
  unfold vl
  obtain ⟨q, hq, rfl⟩ := List.mem_map.mp h
  cases e : qs.find? fun r => decide (r.1 = q.1) with
  | none =>
    have := List.find?_eq_none.mp e q hq
    simp at this
  | some r => rfl
def add2 (acc : PsM) (q : Int × Int) : PsM := putP acc q.1 (vl acc q.1 + q.2)
def mer (q1 q2 : PsM) : PsM := q2.foldl add2 (dk q1)
theorem putP_len (qs : PsM) (s p : Int) : (putP qs s p).length ≤ qs.length + 1 := by
  unfold putP
  split
  · rw [List.length_map]; omega
  · rw [List.length_append]; simp
/-- keys in order, those with a power -/
def ins (a : Int) : List Int → List Int
  | [] => [a]
  | b :: r => if a ≤ b then a :: b :: r else b :: ins a r
def srt : List Int → List Int
  | [] => []
  | a :: r => ins a (srt r)
theorem ins_spec (a : Int) : ∀ r : List Int, r.Pairwise (· ≤ ·) → (ins a r).Perm (a :: r) ∧ (ins a r).Pairwise (· ≤ ·)
  | [], _ => ⟨.refl _, by simp [ins]⟩
  | b :: r, h => by
    obtain ⟨h1, h2⟩ := List.pairwise_cons.mp h
    unfold ins
    split
    · rename_i c
      refine ⟨.refl _, List.pairwise_cons.mpr ⟨fun x hx => ?_, h⟩⟩
      rcases List.mem_cons.mp hx with rfl | hx
      · exact c
      · have := h1 x hx; omega
    · rename_i c
      obtain ⟨p1, p2⟩ := ins_spec a r h2
      refine ⟨(p1.cons b).trans (.swap _ _ _), List.pairwise_cons.mpr ⟨fun x hx => ?_, p2⟩⟩
      rcases List.mem_cons.mp (p1.mem_iff.mp hx) with rfl | hx
      · omega
      · exact h1 x hx
theorem srt_spec : ∀ r : List Int, (srt r).Perm r ∧ (srt r).Pairwise (· ≤ ·)
  | [] => ⟨.refl _, .nil⟩
  | a :: r => by
    obtain ⟨p1, p2⟩ := srt_spec r
    obtain ⟨p3, p4⟩ := ins_spec a (srt r) p2
    exact ⟨p3.trans (p1.cons a), p4⟩
theorem sort_srt (r : List Int) : sortI r = srt r := by
  obtain ⟨a, b⟩ := sortI_spec r
  obtain ⟨c, d⟩ := srt_spec r
  exact perm_sorted_uniq (a.trans c.symm) b d
def fin (qs : PsM) : PsM := ((srt (qs.map Prod.fst)).filter fun s => decide (vl qs s ≠ 0)).map fun s => (s, vl qs s)
theorem foldl_len : ∀ (q2 acc : PsM), (q2.foldl add2 acc).length ≤ acc.length + q2.length
  | [], acc => by simp
  | q :: q2, acc => by
    have a := foldl_len q2 (add2 acc q)
    have b : (add2 acc q).length ≤ acc.length + 1 := putP_len _ _ _
    show (q2.foldl add2 (add2 acc q)).length ≤ _
    rw [List.length_cons]
    omega
theorem dk_len (q1 : PsM) : (dk q1).length ≤ q1.length := by
  have : ∀ (l acc : PsM), (l.foldl (fun acc q => putP acc q.1 q.2) acc).length ≤ acc.length + l.length := by
    intro l
    induction l with
    | nil => intro acc; simp
    | cons q l ih =>
      intro acc
      have a := ih (putP acc q.1 q.2)
      have b := putP_len acc q.1 q.2
      show (l.foldl _ (putP acc q.1 q.2)).length ≤ _
      rw [List.length_cons]
      omega
  have := this q1 []
  simp at this
  exact this
def lin (f : Int → Int) (qs : PsM) : Int := (qs.map fun q => f q.1 * q.2).sum
theorem lin_cons (f : Int → Int) (q : Int × Int) (qs : PsM) : lin f (q :: qs) = f q.1 * q.2 + lin f qs := by unfold lin; rw [List.map_cons, List.sum_cons]
theorem lin_nil (f : Int → Int) : lin f [] = 0 := rfl
theorem lin_app (f : Int → Int) (a b : PsM) : lin f (a ++ b) = lin f a + lin f b := by unfold lin; rw [List.map_append, List.sum_append]
theorem vl_cons_eq (q : Int × Int) (qs : PsM) : vl (q :: qs) q.1 = q.2 := by unfold vl; rw [List.find?_cons_of_pos (by simp)]; rfl
theorem vl_cons_ne {q : Int × Int} {qs : PsM} {s : Int} (h : q.1 ≠ s) : vl (q :: qs) s = vl qs s := by unfold vl; rw [List.find?_cons_of_neg (by simpa using h)]
theorem vl_no : ∀ {qs : PsM} {s : Int}, s ∉ qs.map Prod.fst → vl qs s = 0
  | [], s, _ => rfl
  | q :: qs, s, h => by
    rw [List.map_cons, List.mem_cons, not_or] at h
    rw [vl_cons_ne fun z => h.1 z.symm]
    exact vl_no h.2
theorem putP_cons_eq (q : Int × Int) (qs : PsM) (p : Int) (h : q.1 ∉ qs.map Prod.fst) : putP (q :: qs) q.1 p = (q.1, p) :: qs := by
  unfold putP
  rw [if_pos (by simp)]
  rw [List.map_cons, if_pos rfl]
  congr 1
  have : ∀ x ∈ qs, (if x.1 = q.1 then (x.1, p) else x) = x := fun x hx => by
    rw [if_neg]
    intro z
    exact h (z ▸ List.mem_map_of_mem hx)
  rw [List.map_congr_left this, List.map_id']
theorem putP_cons_ne {q : Int × Int} {qs : PsM} {s p : Int} (h : q.1 ≠ s) : putP (q :: qs) s p = q :: putP qs s p := by
  unfold putP
  have e : (q :: qs).any (fun q => decide (q.1 = s)) = qs.any fun q => decide (q.1 = s) := by
    rw [List.any_cons, decide_eq_false h, Bool.false_or]
  rw [e]
  split
  · rw [List.map_cons, if_neg h]
  · rfl
theorem lin_put (f : Int → Int) : ∀ (qs : PsM) (s p : Int), (qs.map Prod.fst).Nodup → lin f (putP qs s p) = lin f qs - f s * vl qs s + f s * p
  | [], s, p, _ => by
    show lin f [(s, p)] = _
    rw [lin_cons, lin_nil, show vl [] s = 0 from rfl]; simp
  | q :: qs, s, p, n => by
    rw [List.map_cons, List.nodup_cons] at n
    by_cases c : q.1 = s
    · subst c
      rw [putP_cons_eq q qs p n.1, lin_cons, lin_cons, vl_cons_eq]
      show f q.1 * p + lin f qs = _
      omega
    · rw [putP_cons_ne c, lin_cons, lin_cons, vl_cons_ne c, lin_put f qs s p n.2]
      omega
theorem putP_keys (qs : PsM) (s p : Int) : (putP qs s p).map Prod.fst = if s ∈ qs.map Prod.fst then qs.map Prod.fst else qs.map Prod.fst ++ [s] := by
  unfold putP
  by_cases h : s ∈ qs.map Prod.fst
  · rw [if_pos h, if_pos]
    · rw [List.map_map]
      refine List.map_congr_left fun q _ => ?_
      show (if q.1 = s then (q.1, p) else q).1 = q.1
      split <;> rfl
    · obtain ⟨q, hq, e⟩ := List.mem_map.mp h
      exact List.any_eq_true.mpr ⟨q, hq, decide_eq_true e⟩
  · rw [if_neg h, if_neg]
    · rw [List.map_append]; rfl
    · intro z
      obtain ⟨q, hq, e⟩ := List.any_eq_true.mp z
      exact h (List.mem_map.mpr ⟨q, hq, of_decide_eq_true e⟩)
theorem putP_nodup {qs : PsM} (h : (qs.map Prod.fst).Nodup) (s p : Int) : ((putP qs s p).map Prod.fst).Nodup := by
  rw [putP_keys]
  split
  · exact h
  · rename_i c
    rw [List.nodup_append]
    refine ⟨h, by simp, fun a ha b hb => ?_⟩
    rw [List.mem_singleton] at hb
    subst hb
    exact fun z => c (z ▸ ha)
theorem lin_add2 (f : Int → Int) {acc : PsM} (h : (acc.map Prod.fst).Nodup) (q : Int × Int) : lin f (add2 acc q) = lin f acc + f q.1 * q.2 := by
  unfold add2
  rw [lin_put f acc _ _ h, Int.mul_add]; omega
theorem add2_nodup {acc : PsM} (h : (acc.map Prod.fst).Nodup) (q : Int × Int) : ((add2 acc q).map Prod.fst).Nodup := putP_nodup h _ _
theorem fold_nodup : ∀ (q2 : PsM) {acc : PsM}, (acc.map Prod.fst).Nodup → ((q2.foldl add2 acc).map Prod.fst).Nodup
  | [], acc, h => h
  | q :: q2, acc, h => fold_nodup q2 (add2_nodup h q)
theorem lin_fold (f : Int → Int) : ∀ (q2 : PsM) {acc : PsM}, (acc.map Prod.fst).Nodup → lin f (q2.foldl add2 acc) = lin f acc + lin f q2
  | [], acc, h => by rw [lin_nil]; simp
  | q :: q2, acc, h => by
    rw [List.foldl_cons, lin_fold f q2 (add2_nodup h q), lin_add2 f h, lin_cons]; omega
theorem fold_keys : ∀ (q2 : PsM) {acc : PsM} {s : Int}, s ∈ (q2.foldl add2 acc).map Prod.fst → s ∈ acc.map Prod.fst ∨ s ∈ q2.map Prod.fst
  | [], acc, s, h => .inl h
  | q :: q2, acc, s, h => by
    rcases fold_keys q2 (acc := add2 acc q) h with z | z
    · unfold add2 at z
      rw [putP_keys] at z
      split at z
      · exact .inl z
      · rcases List.mem_append.mp z with z | z
        · exact .inl z
        · rw [List.mem_singleton] at z; subst z; exact .inr (by simp)
    · exact .inr (by rw [List.map_cons]; exact List.mem_cons_of_mem _ z)
theorem dk_self : ∀ {qs : PsM}, (qs.map Prod.fst).Nodup → dk qs = qs := by
  have g : ∀ (l acc : PsM), ((acc ++ l).map Prod.fst).Nodup → l.foldl (fun acc q => putP acc q.1 q.2) acc = acc ++ l := by
    intro l
    induction l with
    | nil => intro acc _; simp
    | cons q l ih =>
      intro acc h
      have e : putP acc q.1 q.2 = acc ++ [q] := by
        unfold putP
        rw [if_neg]
        intro z
        obtain ⟨x, hx, e⟩ := List.any_eq_true.mp z
        rw [List.map_append, List.nodup_append] at h
        exact h.2.2 x.1 (List.mem_map_of_mem hx) q.1 (by simp) (of_decide_eq_true e)
      rw [List.foldl_cons, e, ih (acc ++ [q]) (by rw [List.append_assoc]; exact h), List.append_assoc]; rfl
  exact fun {qs} h => g qs [] h
/-- a list of powers in order, none nought -/
structure Cn (P : PsM) : Prop where
  ris : (P.map Prod.fst).Pairwise (· < ·)
  nz : ∀ q ∈ P, q.2 ≠ 0
theorem ris_nodup {P : PsM} (h : (P.map Prod.fst).Pairwise (· < ·)) : (P.map Prod.fst).Nodup := h.imp fun h => by omega
theorem fin_cn {qs : PsM} (h : (qs.map Prod.fst).Nodup) : Cn (fin qs) := by
  obtain ⟨sp, ss⟩ := srt_spec (qs.map Prod.fst)
  have nd : (srt (qs.map Prod.fst)).Nodup := sp.nodup_iff.mpr h
  have rs : (srt (qs.map Prod.fst)).Pairwise (· < ·) := (ss.and nd).imp fun h => by omega
  refine ⟨?_, fun q hq => ?_⟩
  · unfold fin
    rw [List.map_map]
    have e : (Prod.fst ∘ fun s => (s, vl qs s)) = id := rfl
    rw [e, List.map_id]
    exact rs.filter _
  · obtain ⟨s, hs, rfl⟩ := List.mem_map.mp hq
    exact of_decide_eq_true (List.mem_filter.mp hs).2
theorem lin_keys (f : Int → Int) : ∀ {qs : PsM}, (qs.map Prod.fst).Nodup → lin f qs = ((qs.map Prod.fst).map fun s => f s * vl qs s).sum
  | [], _ => rfl
  | q :: qs, h => by
    rw [List.map_cons, List.nodup_cons] at h
    rw [lin_cons, List.map_cons, List.map_cons, List.sum_cons, vl_cons_eq, lin_keys f h.2]
    congr 2
    refine List.map_congr_left fun s hs => ?_
    rw [vl_cons_ne fun z => h.1 (by rw [z]; exact hs)]
theorem sum_perm {a b : List Int} (h : a.Perm b) : a.sum = b.sum := by
  induction h with
  | nil => rfl
  | cons x _ ih => rw [List.sum_cons, List.sum_cons, ih]
  | swap x y l => rw [List.sum_cons, List.sum_cons, List.sum_cons, List.sum_cons]; omega
  | trans _ _ a b => exact a.trans b
theorem lin_fin (f : Int → Int) {qs : PsM} (h : (qs.map Prod.fst).Nodup) : lin f (fin qs) = lin f qs := by
  obtain ⟨sp, _⟩ := srt_spec (qs.map Prod.fst)
  rw [lin_keys f h, ← sum_perm (sp.map fun s => f s * vl qs s)]
  unfold fin lin
  rw [List.map_map]
  show (List.map (fun s => f s * vl qs s) ((srt (qs.map Prod.fst)).filter fun s => decide (vl qs s ≠ 0))).sum = _
  generalize srt (qs.map Prod.fst) = L
  induction L with
  | nil => rfl
  | cons s L ih =>
    by_cases c : vl qs s = 0
    · rw [List.filter_cons_of_neg (by simp [c]), ih, List.map_cons, List.sum_cons, c]; simp
    · rw [List.filter_cons_of_pos (by simp [c]), List.map_cons, List.sum_cons, ih, List.map_cons, List.sum_cons]
def dl1 (s : Int) : Int → Int := fun x => if x = s then 1 else 0
theorem lin_dl : ∀ {qs : PsM} (s : Int), (qs.map Prod.fst).Nodup → lin (dl1 s) qs = vl qs s
  | [], s, _ => rfl
  | q :: qs, s, h => by
    rw [List.map_cons, List.nodup_cons] at h
    rw [lin_cons, lin_dl s h.2]
    unfold dl1
    by_cases c : q.1 = s
    · subst c
      rw [if_pos rfl, vl_cons_eq, vl_no h.1]; omega
    · rw [if_neg c, vl_cons_ne c]; omega
theorem cn_mem {P : PsM} (h : Cn P) {q : Int × Int} (hq : q ∈ P) : vl P q.1 = q.2 := by
  have n := ris_nodup h.ris
  have r := h.ris
  clear h
  induction P with
  | nil => cases hq
  | cons p P ih =>
    rw [List.map_cons, List.nodup_cons] at n
    rw [List.map_cons, List.pairwise_cons] at r
    rcases List.mem_cons.mp hq with rfl | hq
    · exact vl_cons_eq _ _
    · rw [vl_cons_ne fun z => n.1 (by rw [z]; exact List.mem_map_of_mem hq)]
      exact ih hq n.2 r.2
theorem mem_of_vl : ∀ {P : PsM} {s : Int}, vl P s ≠ 0 → (s, vl P s) ∈ P
  | [], s, h => (h rfl).elim
  | p :: P, s, h => by
    by_cases c : p.1 = s
    · subst c
      rw [vl_cons_eq]; exact List.mem_cons_self
    · rw [vl_cons_ne c] at h ⊢
      exact List.mem_cons_of_mem _ (mem_of_vl h)
theorem lt_uniq : ∀ {A B : List Int}, A.Pairwise (· < ·) → B.Pairwise (· < ·) → (∀ x, x ∈ A ↔ x ∈ B) → A = B
  | [], [], _, _, _ => rfl
  | [], b :: B, _, _, h => by have := (h b).mpr List.mem_cons_self; cases this
  | a :: A, [], _, _, h => by have := (h a).mp List.mem_cons_self; cases this
  | a :: A, b :: B, ha, hb, h => by
    have h1 := List.pairwise_cons.mp ha
    have h2 := List.pairwise_cons.mp hb
    have e : a = b := by
      rcases List.mem_cons.mp ((h a).mp List.mem_cons_self) with z | z
      · exact z
      · rcases List.mem_cons.mp ((h b).mpr List.mem_cons_self) with y | y
        · exact y.symm
        · have := h2.1 a z
          have := h1.1 b y
          omega
    subst e
    rw [lt_uniq h1.2 h2.2 fun x => ?_]
    constructor
    · intro hx
      have := h1.1 x hx
      rcases List.mem_cons.mp ((h x).mp (List.mem_cons_of_mem _ hx)) with z | z
      · omega
      · exact z
    · intro hx
      have := h2.1 x hx
      rcases List.mem_cons.mp ((h x).mpr (List.mem_cons_of_mem _ hx)) with z | z
      · omega
      · exact z
/-- two such lists with the same sums are one -/
theorem cn_uniq {P Q : PsM} (hp : Cn P) (hq : Cn Q) (h : ∀ f, lin f P = lin f Q) : P = Q := by
  have v : ∀ s, vl P s = vl Q s := fun s => by
    rw [← lin_dl s (ris_nodup hp.ris), ← lin_dl s (ris_nodup hq.ris), h]
  have half : ∀ {P Q : PsM}, Cn P → (∀ s, vl P s = vl Q s) → ∀ x, x ∈ P.map Prod.fst → x ∈ Q.map Prod.fst := fun {P Q} hp v x hx => by
    obtain ⟨q, m, rfl⟩ := List.mem_map.mp hx
    have e := cn_mem hp m
    have ne : vl Q q.1 ≠ 0 := by rw [← v, e]; exact hp.nz q m
    exact List.mem_map.mpr ⟨_, mem_of_vl ne, rfl⟩
  have k : P.map Prod.fst = Q.map Prod.fst := lt_uniq hp.ris hq.ris fun x => ⟨half hp v x, half hq (fun s => (v s).symm) x⟩
  have back : ∀ {P : PsM}, Cn P → P = (P.map Prod.fst).map fun s => (s, vl P s) := fun {P} hp => by
    rw [List.map_map]
    refine (List.map_id P).symm.trans (List.map_congr_left fun q hq => ?_)
    show q = (q.1, vl P q.1)
    rw [cn_mem hp hq]
  rw [back hp, back hq, k]
  exact List.map_congr_left fun s _ => by rw [v]
theorem fin_len (qs : PsM) : (fin qs).length ≤ qs.length := by
  unfold fin
  rw [List.length_map]
  refine Nat.le_trans (List.length_filter_le _ _) ?_
  rw [(srt_spec _).1.length_eq, List.length_map]; exact Nat.le_refl _
theorem fin_keys {qs : PsM} {q : Int × Int} (h : q ∈ fin qs) : q.1 ∈ qs.map Prod.fst := by
  obtain ⟨s, hs, rfl⟩ := List.mem_map.mp h
  exact (srt_spec _).1.mem_iff.mp (List.mem_filter.mp hs).1
end FL

noncomputable section
namespace K38
open PySem PySem.Spec PyProof.Rows L2 EP FL
def topS (i : Nat) : Stmt := PySem.Challenge.pw_etaparts_k38_whole_forms_as_products.main.body.getD i (.Pass ⟨0, 0, 0, 0⟩)
abbrev s_is_integer : Stmt := topS 8
theorem sc_is_integer : FnScope ["value"] ["value"] (defScope s_is_integer) := ⟨rfl, rfl, rfl, by decide +kernel, rfl, by decide +kernel, by decide +kernel⟩
abbrev s_is_within : Stmt := topS 9
theorem sc_is_within : FnScope ["value", "low", "high"] ["value", "low", "high"] (defScope s_is_within) := ⟨rfl, rfl, rfl, by decide +kernel, rfl, by decide +kernel, by decide +kernel⟩
abbrev s_is_tagged : Stmt := topS 10
theorem sc_is_tagged : FnScope ["value", "word", "length"] ["value", "word", "length"] (defScope s_is_tagged) := ⟨rfl, rfl, rfl, by decide +kernel, rfl, by decide +kernel, by decide +kernel⟩
abbrev s_is_pair : Stmt := topS 11
theorem sc_is_pair : FnScope ["value"] ["value"] (defScope s_is_pair) := ⟨rfl, rfl, rfl, by decide +kernel, rfl, by decide +kernel, by decide +kernel⟩
abbrev s_is_rising : Stmt := topS 12
theorem sc_is_rising : FnScope ["numbers", "ahead", "behind"] ["numbers"] (defScope s_is_rising) := ⟨rfl, rfl, rfl, by decide +kernel, rfl, by decide +kernel, by decide +kernel⟩
abbrev s_check_many : Stmt := topS 13
theorem sc_check_many : FnScope ["many", "most"] ["many", "most"] (defScope s_check_many) := ⟨rfl, rfl, rfl, by decide +kernel, rfl, by decide +kernel, by decide +kernel⟩
abbrev s_check_digits : Stmt := topS 14
theorem sc_check_digits : FnScope ["numbers", "least_beyond", "number"] ["numbers"] (defScope s_check_digits) := ⟨rfl, rfl, rfl, by decide +kernel, rfl, by decide +kernel, by decide +kernel⟩
abbrev s_is_product : Stmt := topS 16
theorem sc_is_product : FnScope ["value", "powers", "pair"] ["value"] (defScope s_is_product) := ⟨rfl, rfl, rfl, by decide +kernel, rfl, by decide +kernel, by decide +kernel⟩
abbrev s_is_step_power : Stmt := topS 17
theorem sc_is_step_power : FnScope ["value"] ["value"] (defScope s_is_step_power) := ⟨rfl, rfl, rfl, by decide +kernel, rfl, by decide +kernel, by decide +kernel⟩
abbrev s_check_product : Stmt := topS 18
theorem sc_check_product : FnScope ["product"] ["product"] (defScope s_check_product) := ⟨rfl, rfl, rfl, by decide +kernel, rfl, by decide +kernel, by decide +kernel⟩
abbrev s_product_of : Stmt := topS 19
theorem sc_product_of : FnScope ["powers", "kept", "step", "_", "power"] ["powers"] (defScope s_product_of) := ⟨rfl, rfl, rfl, by decide +kernel, rfl, by decide +kernel, by decide +kernel⟩
abbrev s_product_times : Stmt := topS 20
theorem sc_product_times : FnScope ["product", "other", "powers", "step", "power"] ["product", "other"] (defScope s_product_times) := ⟨rfl, rfl, rfl, by decide +kernel, rfl, by decide +kernel, by decide +kernel⟩
abbrev s_is_form : Stmt := topS 22
theorem sc_is_form : FnScope ["value", "weights", "weight", "ahead", "behind"] ["value"] (defScope s_is_form) := ⟨rfl, rfl, rfl, by decide +kernel, rfl, by decide +kernel, by decide +kernel⟩
abbrev s_check_form : Stmt := topS 23
theorem sc_check_form : FnScope ["form"] ["form"] (defScope s_check_form) := ⟨rfl, rfl, rfl, by decide +kernel, rfl, by decide +kernel, by decide +kernel⟩
abbrev s_row_of_ways : Stmt := topS 24
theorem sc_row_of_ways : FnScope ["weights", "many", "row", "weight"] ["weights", "many"] (defScope s_row_of_ways) := ⟨rfl, rfl, rfl, by decide +kernel, rfl, by decide +kernel, by decide +kernel⟩
abbrev s_weight_joined : Stmt := topS 25
theorem sc_weight_joined : FnScope ["row", "weight", "joined", "x", "value", "place"] ["row", "weight"] (defScope s_weight_joined) := ⟨rfl, rfl, rfl, by decide +kernel, rfl, by decide +kernel, by decide +kernel⟩
abbrev s_ways_row : Stmt := topS 27
theorem sc_ways_row : FnScope ["form", "many"] ["form", "many"] (defScope s_ways_row) := ⟨rfl, rfl, rfl, by decide +kernel, rfl, by decide +kernel, by decide +kernel⟩
abbrev s_form_product : Stmt := topS 28
theorem sc_form_product : FnScope ["form", "powers", "weight", "step", "power"] ["form"] (defScope s_form_product) := ⟨rfl, rfl, rfl, by decide +kernel, rfl, by decide +kernel, by decide +kernel⟩
abbrev s_joined : Stmt := topS 29
theorem sc_joined : FnScope ["form", "other", "weights"] ["form", "other"] (defScope s_joined) := ⟨rfl, rfl, rfl, by decide +kernel, rfl, by decide +kernel, by decide +kernel⟩
abbrev s_row_by_powers : Stmt := topS 31
theorem sc_row_by_powers : FnScope ["powers", "many", "sums", "row", "place", "total", "one", "number"] ["powers", "many"] (defScope s_row_by_powers) := ⟨rfl, rfl, rfl, by decide +kernel, rfl, by decide +kernel, by decide +kernel⟩
abbrev s_sums_of : Stmt := topS 32
theorem sc_sums_of : FnScope ["powers", "many", "sums", "divisor", "place"] ["powers", "many"] (defScope s_sums_of) := ⟨rfl, rfl, rfl, by decide +kernel, rfl, by decide +kernel, by decide +kernel⟩
abbrev s_product_row : Stmt := topS 34
theorem sc_product_row : FnScope ["product", "many", "row"] ["product", "many"] (defScope s_product_row) := ⟨rfl, rfl, rfl, by decide +kernel, rfl, by decide +kernel, by decide +kernel⟩
abbrev s_numbers_of : Stmt := topS 35
theorem sc_numbers_of : FnScope ["product", "many", "powers", "step", "power", "place"] ["product", "many"] (defScope s_numbers_of) := ⟨rfl, rfl, rfl, by decide +kernel, rfl, by decide +kernel, by decide +kernel⟩
abbrev s_law_pot : Stmt := topS 37
theorem sc_law_pot : FnScope ["script", "k", "cell"] ["script", "k"] (defScope s_law_pot) := ⟨rfl, rfl, rfl, by decide +kernel, rfl, by decide +kernel, by decide +kernel⟩
abbrev s_law_draw : Stmt := topS 38
theorem sc_law_draw : FnScope ["pot", "room", "digit"] ["pot", "room"] (defScope s_law_draw) := ⟨rfl, rfl, rfl, by decide +kernel, rfl, by decide +kernel, by decide +kernel⟩
abbrev s_law_pick : Stmt := topS 39
theorem sc_law_pick : FnScope ["pot", "some"] ["pot", "some"] (defScope s_law_pick) := ⟨rfl, rfl, rfl, by decide +kernel, rfl, by decide +kernel, by decide +kernel⟩
abbrev s_law_most : Stmt := topS 40
theorem sc_law_most : FnScope ["weight", "number", "found"] ["weight", "number"] (defScope s_law_most) := ⟨rfl, rfl, rfl, by decide +kernel, rfl, by decide +kernel, by decide +kernel⟩
abbrev s_law_row : Stmt := topS 41
theorem sc_law_row : FnScope ["weights", "many", "found", "weight", "late", "place", "most", "one"] ["weights", "many"] (defScope s_law_row) := ⟨rfl, rfl, rfl, by decide +kernel, rfl, by decide +kernel, by decide +kernel⟩
abbrev s_law_weights : Stmt := topS 42
theorem sc_law_weights : FnScope ["pot", "least", "most", "found", "turn"] ["pot", "least", "most"] (defScope s_law_weights) := ⟨rfl, rfl, rfl, by decide +kernel, rfl, by decide +kernel, by decide +kernel⟩
abbrev s_law_powers : Stmt := topS 43
theorem sc_law_powers : FnScope ["weights", "found", "weight", "step", "power"] ["weights"] (defScope s_law_powers) := ⟨rfl, rfl, rfl, by decide +kernel, rfl, by decide +kernel, by decide +kernel⟩
abbrev s_law_rows_times : Stmt := topS 44
theorem sc_law_rows_times : FnScope ["row", "other", "found", "at", "back"] ["row", "other"] (defScope s_law_rows_times) := ⟨rfl, rfl, rfl, by decide +kernel, rfl, by decide +kernel, by decide +kernel⟩
abbrev s_law_right : Stmt := topS 45
theorem sc_law_right : FnScope ["pot", "one", "other", "many", "near", "far", "due", "row", "both", "led"] ["pot"] (defScope s_law_right) := ⟨rfl, rfl, rfl, by decide +kernel, rfl, by decide +kernel, by decide +kernel⟩
abbrev s_law : Stmt := topS 46
theorem sc_law : FnScope ["script"] ["script"] (defScope s_law) := ⟨rfl, rfl, rfl, by decide +kernel, rfl, by decide +kernel, by decide +kernel⟩
structure Tx (K : PySem.W.Frag) (mg : Str → Option Value) where
  f_is_integer : Addr
  fd_is_integer : FuncData
  F_is_integer : Fun K "is_integer" "is_integer" s_is_integer f_is_integer fd_is_integer
  m_is_integer : mg "is_integer" = some (.ref f_is_integer)
  b_is_integer : Binds K fd_is_integer ["value"] []
  f_is_within : Addr
  fd_is_within : FuncData
  F_is_within : Fun K "is_within" "is_within" s_is_within f_is_within fd_is_within
  m_is_within : mg "is_within" = some (.ref f_is_within)
  b_is_within : Binds K fd_is_within ["value", "low", "high"] []
  f_is_tagged : Addr
  fd_is_tagged : FuncData
  F_is_tagged : Fun K "is_tagged" "is_tagged" s_is_tagged f_is_tagged fd_is_tagged
  m_is_tagged : mg "is_tagged" = some (.ref f_is_tagged)
  b_is_tagged : Binds K fd_is_tagged ["value", "word", "length"] []
  f_is_pair : Addr
  fd_is_pair : FuncData
  F_is_pair : Fun K "is_pair" "is_pair" s_is_pair f_is_pair fd_is_pair
  m_is_pair : mg "is_pair" = some (.ref f_is_pair)
  b_is_pair : Binds K fd_is_pair ["value"] []
  f_is_rising : Addr
  fd_is_rising : FuncData
  F_is_rising : Fun K "is_rising" "is_rising" s_is_rising f_is_rising fd_is_rising
  m_is_rising : mg "is_rising" = some (.ref f_is_rising)
  b_is_rising : Binds K fd_is_rising ["numbers"] []
  f_check_many : Addr
  fd_check_many : FuncData
  F_check_many : Fun K "check_many" "check_many" s_check_many f_check_many fd_check_many
  m_check_many : mg "check_many" = some (.ref f_check_many)
  b_check_many : Binds K fd_check_many ["many", "most"] []
  f_check_digits : Addr
  fd_check_digits : FuncData
  F_check_digits : Fun K "check_digits" "check_digits" s_check_digits f_check_digits fd_check_digits
  m_check_digits : mg "check_digits" = some (.ref f_check_digits)
  b_check_digits : Binds K fd_check_digits ["numbers"] []
  f_is_product : Addr
  fd_is_product : FuncData
  F_is_product : Fun K "is_product" "is_product" s_is_product f_is_product fd_is_product
  m_is_product : mg "is_product" = some (.ref f_is_product)
  b_is_product : Binds K fd_is_product ["value"] []
  f_is_step_power : Addr
  fd_is_step_power : FuncData
  F_is_step_power : Fun K "is_step_power" "is_step_power" s_is_step_power f_is_step_power fd_is_step_power
  m_is_step_power : mg "is_step_power" = some (.ref f_is_step_power)
  b_is_step_power : Binds K fd_is_step_power ["value"] []
  f_check_product : Addr
  fd_check_product : FuncData
  F_check_product : Fun K "check_product" "check_product" s_check_product f_check_product fd_check_product
  m_check_product : mg "check_product" = some (.ref f_check_product)
  b_check_product : Binds K fd_check_product ["product"] []
  f_product_of : Addr
  fd_product_of : FuncData
  F_product_of : Fun K "product_of" "product_of" s_product_of f_product_of fd_product_of
  m_product_of : mg "product_of" = some (.ref f_product_of)
  b_product_of : Binds K fd_product_of ["powers"] []
  f_product_times : Addr
  fd_product_times : FuncData
  F_product_times : Fun K "product_times" "product_times" s_product_times f_product_times fd_product_times
  m_product_times : mg "product_times" = some (.ref f_product_times)
  b_product_times : Binds K fd_product_times ["product", "other"] []
  f_is_form : Addr
  fd_is_form : FuncData
  F_is_form : Fun K "is_form" "is_form" s_is_form f_is_form fd_is_form
  m_is_form : mg "is_form" = some (.ref f_is_form)
  b_is_form : Binds K fd_is_form ["value"] []
  f_check_form : Addr
  fd_check_form : FuncData
  F_check_form : Fun K "check_form" "check_form" s_check_form f_check_form fd_check_form
  m_check_form : mg "check_form" = some (.ref f_check_form)
  b_check_form : Binds K fd_check_form ["form"] []
  f_row_of_ways : Addr
  fd_row_of_ways : FuncData
  F_row_of_ways : Fun K "row_of_ways" "row_of_ways" s_row_of_ways f_row_of_ways fd_row_of_ways
  m_row_of_ways : mg "row_of_ways" = some (.ref f_row_of_ways)
  b_row_of_ways : Binds K fd_row_of_ways ["weights", "many"] []
  f_weight_joined : Addr
  fd_weight_joined : FuncData
  F_weight_joined : Fun K "weight_joined" "weight_joined" s_weight_joined f_weight_joined fd_weight_joined
  m_weight_joined : mg "weight_joined" = some (.ref f_weight_joined)
  b_weight_joined : Binds K fd_weight_joined ["row", "weight"] []
  f_ways_row : Addr
  fd_ways_row : FuncData
  F_ways_row : Fun K "ways_row" "ways_row" s_ways_row f_ways_row fd_ways_row
  m_ways_row : mg "ways_row" = some (.ref f_ways_row)
  b_ways_row : Binds K fd_ways_row ["form", "many"] []
  f_form_product : Addr
  fd_form_product : FuncData
  F_form_product : Fun K "form_product" "form_product" s_form_product f_form_product fd_form_product
  m_form_product : mg "form_product" = some (.ref f_form_product)
  b_form_product : Binds K fd_form_product ["form"] []
  f_joined : Addr
  fd_joined : FuncData
  F_joined : Fun K "joined" "joined" s_joined f_joined fd_joined
  m_joined : mg "joined" = some (.ref f_joined)
  b_joined : Binds K fd_joined ["form", "other"] []
  f_row_by_powers : Addr
  fd_row_by_powers : FuncData
  F_row_by_powers : Fun K "row_by_powers" "row_by_powers" s_row_by_powers f_row_by_powers fd_row_by_powers
  m_row_by_powers : mg "row_by_powers" = some (.ref f_row_by_powers)
  b_row_by_powers : Binds K fd_row_by_powers ["powers", "many"] []
  f_sums_of : Addr
  fd_sums_of : FuncData
  F_sums_of : Fun K "sums_of" "sums_of" s_sums_of f_sums_of fd_sums_of
  m_sums_of : mg "sums_of" = some (.ref f_sums_of)
  b_sums_of : Binds K fd_sums_of ["powers", "many"] []
  f_product_row : Addr
  fd_product_row : FuncData
  F_product_row : Fun K "product_row" "product_row" s_product_row f_product_row fd_product_row
  m_product_row : mg "product_row" = some (.ref f_product_row)
  b_product_row : Binds K fd_product_row ["product", "many"] []
  f_numbers_of : Addr
  fd_numbers_of : FuncData
  F_numbers_of : Fun K "numbers_of" "numbers_of" s_numbers_of f_numbers_of fd_numbers_of
  m_numbers_of : mg "numbers_of" = some (.ref f_numbers_of)
  b_numbers_of : Binds K fd_numbers_of ["product", "many"] []
  f_law_pot : Addr
  fd_law_pot : FuncData
  F_law_pot : Fun K "_law_pot" "_law_pot" s_law_pot f_law_pot fd_law_pot
  m_law_pot : mg "_law_pot" = some (.ref f_law_pot)
  b_law_pot : Binds K fd_law_pot ["script", "k"] []
  f_law_draw : Addr
  fd_law_draw : FuncData
  F_law_draw : Fun K "_law_draw" "_law_draw" s_law_draw f_law_draw fd_law_draw
  m_law_draw : mg "_law_draw" = some (.ref f_law_draw)
  b_law_draw : Binds K fd_law_draw ["pot", "room"] []
  f_law_pick : Addr
  fd_law_pick : FuncData
  F_law_pick : Fun K "_law_pick" "_law_pick" s_law_pick f_law_pick fd_law_pick
  m_law_pick : mg "_law_pick" = some (.ref f_law_pick)
  b_law_pick : Binds K fd_law_pick ["pot", "some"] []
  f_law_most : Addr
  fd_law_most : FuncData
  F_law_most : Fun K "_law_most" "_law_most" s_law_most f_law_most fd_law_most
  m_law_most : mg "_law_most" = some (.ref f_law_most)
  b_law_most : Binds K fd_law_most ["weight", "number"] []
  f_law_row : Addr
  fd_law_row : FuncData
  F_law_row : Fun K "_law_row" "_law_row" s_law_row f_law_row fd_law_row
  m_law_row : mg "_law_row" = some (.ref f_law_row)
  b_law_row : Binds K fd_law_row ["weights", "many"] []
  f_law_weights : Addr
  fd_law_weights : FuncData
  F_law_weights : Fun K "_law_weights" "_law_weights" s_law_weights f_law_weights fd_law_weights
  m_law_weights : mg "_law_weights" = some (.ref f_law_weights)
  b_law_weights : Binds K fd_law_weights ["pot", "least", "most"] []
  f_law_powers : Addr
  fd_law_powers : FuncData
  F_law_powers : Fun K "_law_powers" "_law_powers" s_law_powers f_law_powers fd_law_powers
  m_law_powers : mg "_law_powers" = some (.ref f_law_powers)
  b_law_powers : Binds K fd_law_powers ["weights"] []
  f_law_rows_times : Addr
  fd_law_rows_times : FuncData
  F_law_rows_times : Fun K "_law_rows_times" "_law_rows_times" s_law_rows_times f_law_rows_times fd_law_rows_times
  m_law_rows_times : mg "_law_rows_times" = some (.ref f_law_rows_times)
  b_law_rows_times : Binds K fd_law_rows_times ["row", "other"] []
  f_law_right : Addr
  fd_law_right : FuncData
  F_law_right : Fun K "_law_right" "_law_right" s_law_right f_law_right fd_law_right
  m_law_right : mg "_law_right" = some (.ref f_law_right)
  b_law_right : Binds K fd_law_right ["pot"] []
  f_law : Addr
  fd_law : FuncData
  F_law : Fun K "law" "law" s_law f_law fd_law
  m_law : mg "law" = some (.ref f_law)
  b_law : Binds K fd_law ["script"] []
  kb_form_product_0 : KBinds K fd_form_product ["form"] ["form"] (fun us ws => match us, ws with | [], [ws0] => [ws0] | _, _ => []) (fun us ws => match us, ws with | [], [ws0] => [ws0] | _, _ => [])
  kb_joined_1 : KBinds K fd_joined ["form", "other"] ["other", "form"] (fun us ws => match us, ws with | [], [ws0, ws1] => [ws1, ws0] | _, _ => []) (fun us ws => match us, ws with | [], [ws0, ws1] => [ws1, ws0] | _, _ => [])
  z_abs : mg "abs" = none
  z_all : mg "all" = none
  z_any : mg "any" = none
  z_bool : mg "bool" = none
  z_dict : mg "dict" = none
  z_divmod : mg "divmod" = none
  z_int : mg "int" = none
  z_isinstance : mg "isinstance" = none
  z_len : mg "len" = none
  z_list : mg "list" = none
  z_max : mg "max" = none
  z_range : mg "range" = none
  z_repr : mg "repr" = none
  z_sorted : mg "sorted" = none
  z_str : mg "str" = none
  z_sum : mg "sum" = none
  z_tuple : mg "tuple" = none
  z_zip : mg "zip" = none
section
variable {P : Program} {w : World} {K : PySem.W.Frag} {mg : Str → Option Value} {base : Heap}

def F_law_draw : Pot → List D → Option (D × Pot) := fun π ds => match π, ds with
  | [p0, p1], [.int m] => if 0 < m ∧ m < 1073741824 then (if 0 < p0 then some (.int (p0 % m), [p0 / m, p1]) else some (.int ((((p1 * 48271 + 18144) % 2147483587) * ((p1 * 48271 + 18144) % 2147483587) % 2147483549 / 97) % m), [p0, (p1 * 48271 + 18144) % 2147483587])) else none
  | _, _ => none
theorem ok_law_draw (T : Tx K mg) : FnOk P w K mg base CX0 1 T.f_law_draw T.fd_law_draw ["pot", "room"] (SpP K false [false] F_law_draw) := by
  refine T.F_law_draw.ok sc_law_draw (fun vs H Q E h => ?_) (fun cdv A outer s H vs Q E hr h => ?_)
  · obtain ⟨S, a, ws, π, ds, d, π', rfl, _, _, _, ar, _⟩ := h
    show ws.length + 1 = _
    rw [ar.len.1]; rfl
  · obtain ⟨S, a, ws, π, ds, d, π', rfl, al, sa, hp, ar, e, q⟩ := h
    unfold F_law_draw at e
    split at e
    · rename_i p0 p1 m
      split at e
      · rename_i c
        obtain ⟨m0, m1⟩ := c
        obtain ⟨v, rfl, hv⟩ : ∃ v, ws = [v] ∧ v = .int m := by
          match ws, ar with
          | [v], ar =>
            have h1 := ar.1
            rw [if_neg (by decide)] at h1
            cases h1
            exact ⟨_, rfl, rfl⟩
        subst hv
        have hp : H a = some (.lst [.int p0, .int p1]) := hp
        refine ⟨_, (pss_cons (ps_if (pt_cmpR op_gt (pe_ix ix_list (pv 0) pe_int (fun _ _ => rfl)) pe_int (nomark _)) (pss_cons (ps_asg (pe_callB call_divmod (by rfl) T.z_divmod (by decide +kernel) (pa_cons (pe_ix ix_list (pv 0) pe_int (fun _ _ => rfl)) (pa_cons (pv 1) pa_nil))) (pg_tup rfl (pgs_cons (pg_sub (pv 0) pe_int set_list) (pgs_cons (pg_name (i := 2) sc_law_draw.nd rfl (.inl rfl)) pgs_nil))))
  (pss_one (ps_ret (pv 2)))) pss_nil)
  (pss_cons (ps_asg (pe_op op_mod (pe_callTy call_int1 (by rfl) T.z_int (by decide +kernel) (pa_cons (pe_op op_add (pe_op op_mul (pe_ix ix_list (pv 0) pe_int (fun _ _ => rfl)) pe_int) pe_int) pa_nil)) pe_int) (pg_sub (pv 0) pe_int set_list))
  (pss_one (ps_ret (pe_op op_mod (pe_callTy call_int1 (by rfl) T.z_int (by decide +kernel) (pa_cons (pe_op op_fdiv (pe_op op_mod (pe_callTy call_int1 (by rfl) T.z_int (by decide +kernel) (pa_cons (pe_op op_mul (pe_ix ix_list (pv 0) pe_int (fun _ _ => rfl)) (pe_ix ix_list (pv 0) pe_int (fun _ _ => rfl))) pa_nil)) pe_int) pe_int) pa_nil)) (pv 1)))))), ?_⟩
        refine ⟨.ref a, rfl, a, _, 0, .int p0, rfl, rfl, sqL hp, rfl, p0, 0, rfl, rfl, _, rfl, ite2 (fun c => ?_) (fun c => ?_)⟩
        · have c0 : 0 < p0 := of_decide_eq_true c
          rw [if_pos c0] at e
          cases e
          refine ⟨.ref a, rfl, a, _, 0, .int p0, rfl, rfl, sqL hp, rfl, .int m, rfl, p0, m, rfl, ⟨m0, m1⟩, fun t nt => ?_⟩
          have nta : a ≠ t := ne_of_none hp nt
          have hp1 : (upd H t (.tup [.int (p0 / m), .int (p0 % m)])) a = some (.lst [.int p0, .int p1]) := by rw [upd_ne nta]; exact hp
          refine ⟨t, _, rfl, sqT upd_same, rfl, .int (p0 / m), _, rfl, ?_⟩
          refine ⟨.ref a, rfl, a, _, 0, 0, rfl, rfl, hp1, rfl, ?_⟩
          refine ⟨.int (p0 % m), _, rfl, rfl, ?_⟩
          refine ⟨_, rfl, ?_⟩
          refine q _ _ ?_ upd_same ?_
          · exact (Kp.new nt).bt.trans Bt.upd
          · rw [if_neg (by decide)]; exact .int _
        · have c0 : ¬ 0 < p0 := fun z => c (decide_eq_true z)
          rw [if_neg c0] at e
          cases e
          refine ⟨.ref a, rfl, a, _, 1, .int p1, rfl, rfl, sqL hp, rfl, p1, _, rfl, rfl, .inr ⟨by decide, by decide⟩, _, _, rfl, rfl, .inl ⟨_, rfl, _, _, rfl, rfl, (show (0 : Int) < 2147483587 by decide), ?_⟩⟩
          have b0 := Int.emod_nonneg (p1 * 48271 + 18144) (show (2147483587 : Int) ≠ 0 by decide)
          have b1 := Int.emod_lt_of_pos (p1 * 48271 + 18144) (show (0 : Int) < 2147483587 by decide)
          refine ⟨.ref a, rfl, a, _, 1, 1, rfl, rfl, hp, rfl, ?_⟩
          have hp2 : (upd H a (.lst [.int p0, .int ((p1 * 48271 + 18144) % 2147483587)])) a = some (.lst [.int p0, .int ((p1 * 48271 + 18144) % 2147483587)]) := upd_same
          refine ⟨.ref a, rfl, a, _, 1, _, rfl, rfl, sqL hp2, rfl, .ref a, rfl, a, _, 1, _, rfl, rfl, sqL hp2, rfl, _, _, rfl, rfl, .inl ⟨by omega, by omega⟩, .inl ⟨_, rfl, _, _, rfl, rfl, (show (0 : Int) < 2147483549 by decide), ?_⟩⟩
          refine ⟨_, _, rfl, rfl, ⟨by decide, by decide⟩, .inl ⟨_, rfl, .int m, rfl, _, m, rfl, rfl, m0, ?_⟩⟩
          refine q _ _ Bt.upd upd_same ?_
          rw [if_neg (by decide)]; exact .int _
      · cases e
    · cases e

/-- the pot as the law keeps it -/
def PotOk (π : Pot) : Prop := ∃ p0 p1 : Int, π = [p0, p1] ∧ 0 ≤ p0
theorem draw_ok {π : Pot} (h : PotOk π) {m : Int} (m0 : 0 < m) (m1 : m < 1073741824) : ∃ d π', F_law_draw π [.int m] = some (.int d, π') ∧ 0 ≤ d ∧ d < m ∧ PotOk π' := by
  obtain ⟨p0, p1, rfl, h0⟩ := h
  unfold F_law_draw
  by_cases c : 0 < p0
  · refine ⟨p0 % m, [p0 / m, p1], ?_, Int.emod_nonneg _ (by omega), Int.emod_lt_of_pos _ m0, ⟨_, _, rfl, Int.ediv_nonneg h0 (by omega)⟩⟩
    simp only [if_pos (show 0 < m ∧ m < 1073741824 from ⟨m0, m1⟩), if_pos c]
  · refine ⟨(((p1 * 48271 + 18144) % 2147483587) * ((p1 * 48271 + 18144) % 2147483587) % 2147483549 / 97) % m, [p0, ((p1 * 48271 + 18144) % 2147483587)], ?_, Int.emod_nonneg _ (by omega), Int.emod_lt_of_pos _ m0, ⟨_, _, rfl, h0⟩⟩
    simp only [if_pos (show 0 < m ∧ m < 1073741824 from ⟨m0, m1⟩), if_neg c]
def B_is_integer : Sx :=
  (sRet (xAndV (xIsi "int" (xBo 0)) (xUn notF (xIsi "bool" (xBo 0)))))
def F_is_integer : List D → Option D := runF 0 [false] B_is_integer

theorem ok_is_integer (T : Tx K mg) : FnOk P w K mg base CX0 1 T.f_is_integer T.fd_is_integer ["value"] (SpF K false [false] F_is_integer) := by

  refine T.F_is_integer.ok sc_is_integer (fun vs H Q E h => ?_) (fun cdv A outer s H vs Q E hr h => ?_)
  · obtain ⟨S, pt, ds, d, _, _, ar, _⟩ := h
    rw [ar.len.1]; rfl
  · exact ⟨_, (pss_one (ps_ret (pe_and (pe_callB call_isi (by rfl) T.z_isinstance (by decide +kernel) (pa_cons (pv 0) (pa_cons (pe_bltn (v := .ty "int") (by rfl) T.z_int (by decide +kernel) rfl) pa_nil))) (pe_one (pe_not (pe_callB call_isi (by rfl) T.z_isinstance (by decide +kernel) (pa_cons (pv 0) (pa_cons (pe_bltn (v := .ty "bool") (by rfl) T.z_bool (by decide +kernel) rfl) pa_nil)))))))), SF.spF (b := B_is_integer) (n := 0) (N := ["value"]) (sf_ret (ef_andV (EF.bf (ef_isi isi_int (bf_var 0))) (ef_notV (EF.bf (ef_isi isi_bool (bf_var 0)))))) rfl h (fun z => nomatch z)⟩
def B_is_within : Sx :=
  (sRet (xAndV (xCb F_is_integer (aCons (xVar 0) aNil)) (xChain (cmpF fun i j => decide (i ≤ j)) (cmpF fun i j => decide (i ≤ j)) (xBo 1) (xBo 0) (xBo 2))))
def F_is_within : List D → Option D := runF 0 [false, false, false] B_is_within

theorem ok_is_within (T : Tx K mg) : FnOk P w K mg base CX0 2 T.f_is_within T.fd_is_within ["value", "low", "high"] (SpF K false [false, false, false] F_is_within) := by
  have G_is_integer := ok_is_integer (P := P) (w := w) (base := base) T
  refine T.F_is_within.ok sc_is_within (fun vs H Q E h => ?_) (fun cdv A outer s H vs Q E hr h => ?_)
  · obtain ⟨S, pt, ds, d, _, _, ar, _⟩ := h
    rw [ar.len.1]; rfl
  · exact ⟨_, (pss_one (ps_ret (pe_and (pe_call G_is_integer (hr.mono (by decide)) (by rfl) T.m_is_integer T.F_is_integer.kp T.b_is_integer .nil pass0 (pa_cons (pv 0) pa_nil)) (pe_one (pe_chain op_le op_le (pv 1) (pv 0) (pv 2)))))), SF.spF (b := B_is_within) (n := 0) (N := ["value", "low", "high"]) (sf_ret (ef_andV (EF.bf (ef_call (ga_strict (ef_var 0) ga_nil))) (ef_chain of_cmp of_cmp (bf_var 1) (bf_var 0) (bf_var 2)))) rfl h (fun z => nomatch z)⟩
def B_is_tagged : Sx :=
  (sRet (xAndV (xIsi "tuple" (xBo 0)) (xAndV (xOp (eqF false) (xCb lenF (aCons (xBo 0) aNil)) (xBo 2)) (xAndV (xIsi "str" (xOp ixF (xBo 0) (xC (.int 0)))) (xOp (eqF false) (xOp ixF (xBo 0) (xC (.int 0))) (xBo 1))))))
def F_is_tagged : List D → Option D := runF 0 [false, false, false] B_is_tagged

theorem ok_is_tagged (T : Tx K mg) : FnOk P w K mg base CX0 1 T.f_is_tagged T.fd_is_tagged ["value", "word", "length"] (SpF K false [false, false, false] F_is_tagged) := by

  refine T.F_is_tagged.ok sc_is_tagged (fun vs H Q E h => ?_) (fun cdv A outer s H vs Q E hr h => ?_)
  · obtain ⟨S, pt, ds, d, _, _, ar, _⟩ := h
    rw [ar.len.1]; rfl
  · exact ⟨_, (pss_one (ps_ret (pe_and (pe_callB call_isi (by rfl) T.z_isinstance (by decide +kernel) (pa_cons (pv 0) (pa_cons (pe_bltn (v := .ty "tuple") (by rfl) T.z_tuple (by decide +kernel) rfl) pa_nil))) (pe_and (pe_cmpR (op_eqA hr.units) (pe_callB call_len (by rfl) T.z_len (by decide +kernel) (pa_cons (pv 0) pa_nil)) (pv 2) (nomark _)) (pe_and (pe_callB call_isi (by rfl) T.z_isinstance (by decide +kernel) (pa_cons (pe_ix ix_seq (pv 0) pe_int (fun _ _ => rfl)) (pa_cons (pe_bltn (v := .ty "str") (by rfl) T.z_str (by decide +kernel) rfl) pa_nil))) (pe_one (pe_cmpR (op_eqA hr.units) (pe_ix ix_seq (pv 0) pe_int (fun _ _ => rfl)) (pv 1) (nomark _)))))))), SF.spF (b := B_is_tagged) (n := 0) (N := ["value", "word", "length"]) (sf_ret (ef_andV (EF.bf (ef_isi isi_tuple (bf_var 0))) (ef_andV (EF.bf (ef_op of_eq (EF.bf (ef_cb cf_len (ab_cons (bf_var 0) ab_nil))) (bf_var 2))) (ef_andV (EF.bf (ef_isi isi_str (EF.bf (ef_op of_ix (bf_var 0) (EF.bf ef_int))))) (ef_op of_eq (EF.bf (ef_op of_ix (bf_var 0) (EF.bf ef_int))) (bf_var 1)))))) rfl h (fun z => nomatch z)⟩
def B_is_pair : Sx :=
  (sRet (xAndV (xIsi "tuple" (xBo 0)) (xOp (eqF false) (xCb lenF (aCons (xBo 0) aNil)) (xC (.int 2)))))
def F_is_pair : List D → Option D := runF 0 [false] B_is_pair

theorem ok_is_pair (T : Tx K mg) : FnOk P w K mg base CX0 1 T.f_is_pair T.fd_is_pair ["value"] (SpF K false [false] F_is_pair) := by

  refine T.F_is_pair.ok sc_is_pair (fun vs H Q E h => ?_) (fun cdv A outer s H vs Q E hr h => ?_)
  · obtain ⟨S, pt, ds, d, _, _, ar, _⟩ := h
    rw [ar.len.1]; rfl
  · exact ⟨_, (pss_one (ps_ret (pe_and (pe_callB call_isi (by rfl) T.z_isinstance (by decide +kernel) (pa_cons (pv 0) (pa_cons (pe_bltn (v := .ty "tuple") (by rfl) T.z_tuple (by decide +kernel) rfl) pa_nil))) (pe_one (pe_cmpR (op_eqA hr.units) (pe_callB call_len (by rfl) T.z_len (by decide +kernel) (pa_cons (pv 0) pa_nil)) pe_int (nomark _)))))), SF.spF (b := B_is_pair) (n := 0) (N := ["value"]) (sf_ret (ef_andV (EF.bf (ef_isi isi_tuple (bf_var 0))) (ef_op of_eq (EF.bf (ef_cb cf_len (ab_cons (bf_var 0) ab_nil))) (EF.bf ef_int)))) rfl h (fun z => nomatch z)⟩
def B_is_rising : Sx :=
  (sRet (xCb allF (aCons (xLc (iZpM (xLv 0) (xSl cutA (xBo 0) (xPo (xC (.int 1))) xPn)) (gT 2 (gsC (gN 1) (gsC (gN 2) gsN))) xYes (xOp (cmpF fun i j => decide (i < j)) (xBo 1) (xBo 2)) [1, 2]) aNil)))
def F_is_rising : List D → Option D := runF 2 [false] B_is_rising

theorem ok_is_rising (T : Tx K mg) : FnOk P w K mg base CX0 1 T.f_is_rising T.fd_is_rising ["numbers"] (SpF K false [false] F_is_rising) := by

  refine T.F_is_rising.ok sc_is_rising (fun vs H Q E h => ?_) (fun cdv A outer s H vs Q E hr h => ?_)
  · obtain ⟨S, pt, ds, d, _, _, ar, _⟩ := h
    rw [ar.len.1]; rfl
  · exact ⟨_, (pss_one (ps_ret (pe_callB (cr_all rfl) (by rfl) T.z_all (by decide +kernel) (pa_cons (pe_lc (own := [("ahead", 1), ("behind", 2)]) (g := gTup K 2 (gCons (gName 1) (gCons (gName 2) (gNil)))) (tt := tYes) (by rfl) sc_is_rising.nd (pi_zipM (by rfl) T.z_zip (pa_cons (pv 0) (pa_cons (pe_slice sl_any (pv 0) (po_some pe_int) po_none) pa_nil))) (blkOk_by (own := [("ahead", 1), ("behind", 2)]) (N := ["numbers", "ahead", "behind"]) (sc := defScope s_is_rising) (by decide +kernel)) (fun _ _ _ _ _ => (pg_tup rfl (pgs_cons (pg_name (i := 1) sc_is_rising.nd rfl (.inl rfl)) (pgs_cons (pg_name (i := 2) sc_is_rising.nd rfl (.inl rfl)) pgs_nil)))) (fun _ _ _ _ _ => pts_nil) (fun _ _ _ _ _ => (pe_cmpR op_lt (pv 1) (pv 2) (nomark _)))) pa_nil)))), SF.spF (b := B_is_rising) (n := 2) (N := ["numbers", "ahead", "behind"]) (sf_ret (ef_cb cf_all (ab_cons (EF.bf (NF.ef (nf_lc (if_zipM (yf_var 0) (EF.yf (ef_sl sf_any (bf_var 0) (pf_some (EF.bf ef_int)) pf_none))) (gf_tup (gsf_cons gf_name (gsf_cons gf_name (gsf_nil (vs := []))))) tf_yes (ef_op of_cmp (bf_var 1) (bf_var 2))))) ab_nil))) rfl h (fun z => nomatch z)⟩
def B_check_many : Sx :=
  (sIf (xNot (xT (xCb F_is_within (aCons (xVar 0) (aCons (xC (.int 0)) (aCons (xVar 1) aNil)))))) sNever sNext)
def F_check_many : List D → Option D := runF 0 [false, false] B_check_many

theorem ok_check_many (T : Tx K mg) : FnOk P w K mg base CX0 3 T.f_check_many T.fd_check_many ["many", "most"] (SpF K false [false, false] F_check_many) := by
  have G_is_within := ok_is_within (P := P) (w := w) (base := base) T
  refine T.F_check_many.ok sc_check_many (fun vs H Q E h => ?_) (fun cdv A outer s H vs Q E hr h => ?_)
  · obtain ⟨S, pt, ds, d, _, _, ar, _⟩ := h
    rw [ar.len.1]; rfl
  · exact ⟨_, (pss_one (ps_if (pt_not (pt_val (pe_call G_is_within (hr.mono (by decide)) (by rfl) T.m_is_within T.F_is_within.kp T.b_is_within .nil pass0 (pa_cons (pv 0) (pa_cons pe_int (pa_cons (pv 1) pa_nil)))))) (pss_one ps_never) pss_nil)), SF.spF (b := B_check_many) (n := 0) (N := ["many", "most"]) (sf_if (tf_not (tf_test (EF.bf (ef_call (ga_strict (ef_var 0) (ga_strict ef_int (ga_strict (ef_var 1) ga_nil))))))) sf_never sf_next) rfl h (fun z => nomatch z)⟩
def B_check_digits : Sx :=
  (sSeq (sAsg (xOp powF (xOp powF (xC (.int 10)) (xC (.int 50))) (xC (.int 8))) (gN 1))
  (sIf (xT (xCb anyF (aCons (xLc (iA (xLv 0)) (gN 2) xYes (xOp (cmpF fun i j => decide (j ≤ i)) (xCb absF (aCons (xBo 2) aNil)) (xBo 1)) [2]) aNil))) sNever sNext))
def F_check_digits : List D → Option D := runF 2 [true] B_check_digits

theorem ok_check_digits (T : Tx K mg) : FnOk P w K mg base CX0 1 T.f_check_digits T.fd_check_digits ["numbers"] (SpF K false [true] F_check_digits) := by

  refine T.F_check_digits.ok sc_check_digits (fun vs H Q E h => ?_) (fun cdv A outer s H vs Q E hr h => ?_)
  · obtain ⟨S, pt, ds, d, _, _, ar, _⟩ := h
    rw [ar.len.1]; rfl
  · exact ⟨_, (pss_cons (ps_set (i := 1) sc_check_digits.nd rfl (.inr rfl) (pe_op op_powX (pe_op op_powX pe_int pe_int) pe_int))
  (pss_one (ps_if (pt_val (pe_callB (cr_any rfl) (by rfl) T.z_any (by decide +kernel) (pa_cons (pe_lc (own := [("number", 2)]) (g := gName 2) (tt := tYes) (by rfl) sc_check_digits.nd (pi_any (pv 0)) (blkOk_by (own := [("number", 2)]) (N := ["numbers", "least_beyond", "number"]) (sc := defScope s_check_digits) (by decide +kernel)) (fun _ _ _ _ _ => pg_name (i := 2) sc_check_digits.nd rfl (.inl rfl)) (fun _ _ _ _ _ => pts_nil) (fun _ _ _ _ _ => (pe_cmpR op_ge (pe_callB call_abs (by rfl) T.z_abs (by decide +kernel) (pa_cons (pv 2) pa_nil)) (pv 1) (nomark _)))) pa_nil))) (pss_one ps_never) pss_nil))), SF.spF (b := B_check_digits) (n := 2) (N := ["numbers", "least_beyond", "number"]) (sf_seq (sf_asg (ef_op of_pow (EF.bf (ef_op of_pow (EF.bf ef_int) (EF.bf ef_int))) (EF.bf ef_int)) gf_name)
  (sf_if (tf_test (EF.bf (ef_cb cf_any (ab_cons (EF.bf (NF.ef (nf_lc (if_any (yf_var 0)) gf_name tf_yes (ef_op of_cmp (EF.bf (ef_cb cf_abs (ab_cons (bf_var 2) ab_nil))) (bf_var 1))))) ab_nil)))) sf_never sf_next)) rfl h (fun z => nomatch z)⟩
def B_is_step_power : Sx :=
  (sSeq (sIf (xOr (xNot (xT (xCb F_is_pair (aCons (xVar 0) aNil)))) (xNot (xT (xCb F_is_within (aCons (xOp ixF (xBo 0) (xC (.int 0))) (aCons (xC (.int 1)) (aCons (xC (.int 60)) aNil))))))) (sRet (xC (.bool false))) sNext)
  (sRet (xAndV (xCb F_is_within (aCons (xOp ixF (xBo 0) (xC (.int 1))) (aCons (xUn negF (xC (.int 60))) (aCons (xC (.int 60)) aNil)))) (xOp (eqF true) (xOp ixF (xBo 0) (xC (.int 1))) (xC (.int 0))))))
def F_is_step_power : List D → Option D := runF 0 [false] B_is_step_power

theorem ok_is_step_power (T : Tx K mg) : FnOk P w K mg base CX0 3 T.f_is_step_power T.fd_is_step_power ["value"] (SpF K false [false] F_is_step_power) := by
  have G_is_pair := ok_is_pair (P := P) (w := w) (base := base) T
  have G_is_within := ok_is_within (P := P) (w := w) (base := base) T
  refine T.F_is_step_power.ok sc_is_step_power (fun vs H Q E h => ?_) (fun cdv A outer s H vs Q E hr h => ?_)
  · obtain ⟨S, pt, ds, d, _, _, ar, _⟩ := h
    rw [ar.len.1]; rfl
  · exact ⟨_, (pss_cons (ps_if (PW.pt (pw_or (pt_not (pt_val (pe_call G_is_pair (hr.mono (by decide)) (by rfl) T.m_is_pair T.F_is_pair.kp T.b_is_pair .nil pass0 (pa_cons (pv 0) pa_nil)))) (pw_or1 (pt_not (pt_val (pe_call G_is_within (hr.mono (by decide)) (by rfl) T.m_is_within T.F_is_within.kp T.b_is_within .nil pass0 (pa_cons (pe_ix ix_seq (pv 0) pe_int (fun _ _ => rfl)) (pa_cons pe_int (pa_cons pe_int pa_nil))))))))) (pss_one (ps_ret pe_bl)) pss_nil)
  (pss_one (ps_ret (pe_and (pe_call G_is_within (hr.mono (by decide)) (by rfl) T.m_is_within T.F_is_within.kp T.b_is_within .nil pass0 (pa_cons (pe_ix ix_seq (pv 0) pe_int (fun _ _ => rfl)) (pa_cons (pe_un un_neg pe_int) (pa_cons pe_int pa_nil)))) (pe_one (pe_cmpR (op_neA hr.units) (pe_ix ix_seq (pv 0) pe_int (fun _ _ => rfl)) pe_int (nomark _))))))), SF.spF (b := B_is_step_power) (n := 0) (N := ["value"]) (sf_seq (sf_if (tf_or (tf_not (tf_test (EF.bf (ef_call (ga_strict (ef_var 0) ga_nil))))) (tf_not (tf_test (EF.bf (ef_call (ga_strict (ef_op of_ix (bf_var 0) (EF.bf ef_int)) (ga_strict ef_int (ga_strict ef_int ga_nil)))))))) (sf_ret ef_bool) sf_next)
  (sf_ret (ef_andV (EF.bf (ef_call (ga_strict (ef_op of_ix (bf_var 0) (EF.bf ef_int)) (ga_strict (ef_neg (EF.bf ef_int)) (ga_strict ef_int ga_nil))))) (ef_op of_ne (EF.bf (ef_op of_ix (bf_var 0) (EF.bf ef_int))) (EF.bf ef_int))))) rfl h (fun z => nomatch z)⟩
def B_is_product : Sx :=
  (sSeq (sIf (xNot (xT (xCb F_is_tagged (aCons (xVar 0) (aCons (xC (.str "product")) (aCons (xC (.int 2)) aNil)))))) (sRet (xC (.bool false))) sNext)
  (sSeq (sAsg (xOp ixF (xBo 0) (xC (.int 1))) (gN 1))
  (sSeq (sIf (xOr (xNot (xT (xIsi "tuple" (xBo 1)))) (xT (xOp (cmpF fun i j => decide (j < i)) (xCb lenF (aCons (xBo 1) aNil)) (xC (.int 12))))) (sRet (xC (.bool false))) sNext)
  (sRet (xAndV (xCb allF (aCons (xLc (iA (xLv 1)) (gN 2) xYes (xCb F_is_step_power (aCons (xVar 2) aNil)) [2]) aNil)) (xCb F_is_rising (aCons (xLc (iA (xLv 1)) (gN 2) xYes (xOp ixF (xBo 2) (xC (.int 0))) [2]) aNil)))))))
def F_is_product : List D → Option D := runF 2 [false] B_is_product

theorem ok_is_product (T : Tx K mg) : FnOk P w K mg base CX0 4 T.f_is_product T.fd_is_product ["value"] (SpF K false [false] F_is_product) := by
  have G_is_rising := ok_is_rising (P := P) (w := w) (base := base) T
  have G_is_step_power := ok_is_step_power (P := P) (w := w) (base := base) T
  have G_is_tagged := ok_is_tagged (P := P) (w := w) (base := base) T
  refine T.F_is_product.ok sc_is_product (fun vs H Q E h => ?_) (fun cdv A outer s H vs Q E hr h => ?_)
  · obtain ⟨S, pt, ds, d, _, _, ar, _⟩ := h
    rw [ar.len.1]; rfl
  · exact ⟨_, (pss_cons (ps_if (pt_not (pt_val (pe_call G_is_tagged (hr.mono (by decide)) (by rfl) T.m_is_tagged T.F_is_tagged.kp T.b_is_tagged .nil pass0 (pa_cons (pv 0) (pa_cons pe_str (pa_cons pe_int pa_nil)))))) (pss_one (ps_ret pe_bl)) pss_nil)
  (pss_cons (ps_set (i := 1) sc_is_product.nd rfl (.inl rfl) (pe_ix ix_seq (pv 0) pe_int (fun _ _ => rfl)))
  (pss_cons (ps_if (PW.pt (pw_or (pt_not (pt_val (pe_callB call_isi (by rfl) T.z_isinstance (by decide +kernel) (pa_cons (pv 1) (pa_cons (pe_bltn (v := .ty "tuple") (by rfl) T.z_tuple (by decide +kernel) rfl) pa_nil))))) (pw_or1 (pt_cmpR op_gt (pe_callB call_len (by rfl) T.z_len (by decide +kernel) (pa_cons (pv 1) pa_nil)) pe_int (nomark _))))) (pss_one (ps_ret pe_bl)) pss_nil)
  (pss_one (ps_ret (pe_and (pe_callB (cr_all rfl) (by rfl) T.z_all (by decide +kernel) (pa_cons (pe_lc (own := [("pair", 2)]) (g := gName 2) (tt := tYes) (by rfl) sc_is_product.nd (pi_any (pv 1)) (blkOk_by (own := [("pair", 2)]) (N := ["value", "powers", "pair"]) (sc := defScope s_is_product) (by decide +kernel)) (fun _ _ _ _ _ => pg_name (i := 2) sc_is_product.nd rfl (.inl rfl)) (fun _ _ _ _ _ => pts_nil) (fun _ _ _ _ _ => (pe_call G_is_step_power (hr.mono (by decide)) (by rfl) T.m_is_step_power T.F_is_step_power.kp T.b_is_step_power .nil pass0 (pa_cons (pv 2) pa_nil)))) pa_nil)) (pe_one (pe_call G_is_rising (hr.mono (by decide)) (by rfl) T.m_is_rising T.F_is_rising.kp T.b_is_rising .nil pass0 (pa_cons (pe_lc (own := [("pair", 2)]) (g := gName 2) (tt := tYes) (by rfl) sc_is_product.nd (pi_any (pv 1)) (blkOk_by (own := [("pair", 2)]) (N := ["value", "powers", "pair"]) (sc := defScope s_is_product) (by decide +kernel)) (fun _ _ _ _ _ => pg_name (i := 2) sc_is_product.nd rfl (.inl rfl)) (fun _ _ _ _ _ => pts_nil) (fun _ _ _ _ _ => (pe_ix ix_seq (pv 2) pe_int (fun _ _ => rfl)))) pa_nil))))))))), SF.spF (b := B_is_product) (n := 2) (N := ["value", "powers", "pair"]) (sf_seq (sf_if (tf_not (tf_test (EF.bf (ef_call (ga_strict (ef_var 0) (ga_strict ef_str (ga_strict ef_int ga_nil))))))) (sf_ret ef_bool) sf_next)
  (sf_seq (sf_asg (ef_op of_ix (bf_var 0) (EF.bf ef_int)) gf_name)
  (sf_seq (sf_if (tf_or (tf_not (tf_test (EF.bf (ef_isi isi_tuple (bf_var 1))))) (tf_test (EF.bf (ef_op of_cmp (EF.bf (ef_cb cf_len (ab_cons (bf_var 1) ab_nil))) (EF.bf ef_int))))) (sf_ret ef_bool) sf_next)
  (sf_ret (ef_andV (EF.bf (ef_cb cf_all (ab_cons (EF.bf (NF.ef (nf_lc (if_any (yf_var 1)) gf_name tf_yes (ef_call (ga_strict (ef_var 2) ga_nil))))) ab_nil))) (ef_call (ga_strict (NF.ef (nf_lc (if_any (yf_var 1)) gf_name tf_yes (ef_op of_ix (bf_var 2) (EF.bf ef_int)))) ga_nil))))))) rfl h (fun z => nomatch z)⟩
def B_check_product : Sx :=
  (sIf (xNot (xT (xCb F_is_product (aCons (xVar 0) aNil)))) sNever sNext)
def F_check_product : List D → Option D := runF 0 [false] B_check_product

theorem ok_check_product (T : Tx K mg) : FnOk P w K mg base CX0 5 T.f_check_product T.fd_check_product ["product"] (SpF K false [false] F_check_product) := by
  have G_is_product := ok_is_product (P := P) (w := w) (base := base) T
  refine T.F_check_product.ok sc_check_product (fun vs H Q E h => ?_) (fun cdv A outer s H vs Q E hr h => ?_)
  · obtain ⟨S, pt, ds, d, _, _, ar, _⟩ := h
    rw [ar.len.1]; rfl
  · exact ⟨_, (pss_one (ps_if (pt_not (pt_val (pe_call G_is_product (hr.mono (by decide)) (by rfl) T.m_is_product T.F_is_product.kp T.b_is_product .nil pass0 (pa_cons (pv 0) pa_nil)))) (pss_one ps_never) pss_nil)), SF.spF (b := B_check_product) (n := 0) (N := ["product"]) (sf_if (tf_not (tf_test (EF.bf (ef_call (ga_strict (ef_var 0) ga_nil))))) sf_never sf_next) rfl h (fun z => nomatch z)⟩
def B_product_of : Sx :=
  (sSeq (sAsg (xLc (iA (xESort 0)) (gN 2) (xT (xOp (eqF true) (xEG 0 (xBo 2)) (xC (.int 0)))) (xTup (aCons (xVar 2) (aCons (xEG 0 (xBo 2)) aNil))) [2]) (gN 1))
  (sSeq (sIf (xT (xOp (cmpF fun i j => decide (j < i)) (xCb lenF (aCons (xBo 1) aNil)) (xC (.int 12)))) sNever sNext)
  (sSeq (sIf (xT (xCb anyF (aCons (xLc (iA (xLv 1)) (gT 2 (gsC (gN 2) (gsC (gN 3) gsN))) xYes (xOp (cmpF fun i j => decide (j < i)) (xBo 2) (xC (.int 60))) [2, 3]) aNil))) sNever sNext)
  (sSeq (sIf (xT (xCb anyF (aCons (xLc (iA (xLv 1)) (gT 2 (gsC (gN 3) (gsC (gN 4) gsN))) xYes (xOp (cmpF fun i j => decide (j < i)) (xCb absF (aCons (xBo 4) aNil)) (xC (.int 60))) [3, 4]) aNil))) sNever sNext)
  (sRet (xTup (aCons (xC (.str "product")) (aCons (xCb tupleF (aCons (xBo 1) aNil)) aNil))))))))
def F_product_of : List D → Option D := runF 4 [false] B_product_of

theorem ok_product_of (T : Tx K mg) : FnOk P w K mg base CX0 1 T.f_product_of T.fd_product_of ["powers"] (SpF K false [false] F_product_of) := by

  refine T.F_product_of.ok sc_product_of (fun vs H Q E h => ?_) (fun cdv A outer s H vs Q E hr h => ?_)
  · obtain ⟨S, pt, ds, d, _, _, ar, _⟩ := h
    rw [ar.len.1]; rfl
  · exact ⟨_, (pss_cons (ps_setLc (i := 1) (own := [("step", 2)]) (g := gName 2) rfl sc_product_of.nd rfl rfl (sw_true rfl rfl rfl (by decide +kernel)) (pi_any (pe_callB (cr_sortedDI (by rfl)) (by rfl) T.z_sorted (by decide +kernel) (pa_cons (pv 0) pa_nil))) (blkOk_by (own := [("step", 2)]) (N := ["powers", "kept", "step", "_", "power"]) (sc := defScope s_product_of) (by decide +kernel)) (fun _ _ _ _ _ => pg_name (i := 2) sc_product_of.nd rfl (.inl rfl)) (fun _ _ _ _ _ => (pts_one (pt_cmpR (op_neA hr.units) (pe_dget (un1of (un66 hr)) (pv 0) (pv 2) (fun _ _ => rfl)) pe_int (nomark _)))) (fun _ _ _ _ _ => (pe_tupF (pa_cons (pv 2) (pa_cons (pe_dget (un1of (un66 hr)) (pv 0) (pv 2) (fun _ _ => rfl)) pa_nil)))))
  (pss_cons (ps_if (pt_cmpR op_gt (pe_callB call_len (by rfl) T.z_len (by decide +kernel) (pa_cons (pv 1) pa_nil)) pe_int (nomark _)) (pss_one ps_never) pss_nil)
  (pss_cons (ps_if (pt_val (pe_callB (cr_any rfl) (by rfl) T.z_any (by decide +kernel) (pa_cons (pe_lc (own := [("step", 2), ("_", 3)]) (g := gTup K 2 (gCons (gName 2) (gCons (gName 3) (gNil)))) (tt := tYes) (by rfl) sc_product_of.nd (pi_any (pv 1)) (blkOk_by (own := [("step", 2), ("_", 3)]) (N := ["powers", "kept", "step", "_", "power"]) (sc := defScope s_product_of) (by decide +kernel)) (fun _ _ _ _ _ => (pg_tup rfl (pgs_cons (pg_name (i := 2) sc_product_of.nd rfl (.inl rfl)) (pgs_cons (pg_name (i := 3) sc_product_of.nd rfl (.inl rfl)) pgs_nil)))) (fun _ _ _ _ _ => pts_nil) (fun _ _ _ _ _ => (pe_cmpR op_gt (pv 2) pe_int (nomark _)))) pa_nil))) (pss_one ps_never) pss_nil)
  (pss_cons (ps_if (pt_val (pe_callB (cr_any rfl) (by rfl) T.z_any (by decide +kernel) (pa_cons (pe_lc (own := [("_", 3), ("power", 4)]) (g := gTup K 2 (gCons (gName 3) (gCons (gName 4) (gNil)))) (tt := tYes) (by rfl) sc_product_of.nd (pi_any (pv 1)) (blkOk_by (own := [("_", 3), ("power", 4)]) (N := ["powers", "kept", "step", "_", "power"]) (sc := defScope s_product_of) (by decide +kernel)) (fun _ _ _ _ _ => (pg_tup rfl (pgs_cons (pg_name (i := 3) sc_product_of.nd rfl (.inl rfl)) (pgs_cons (pg_name (i := 4) sc_product_of.nd rfl (.inl rfl)) pgs_nil)))) (fun _ _ _ _ _ => pts_nil) (fun _ _ _ _ _ => (pe_cmpR op_gt (pe_callB call_abs (by rfl) T.z_abs (by decide +kernel) (pa_cons (pv 4) pa_nil)) pe_int (nomark _)))) pa_nil))) (pss_one ps_never) pss_nil)
  (pss_one (ps_ret (pe_tupF (pa_cons pe_str (pa_cons (pe_callTy cr_tupF (by rfl) T.z_tuple (by decide +kernel) (pa_cons (pv 1) pa_nil)) pa_nil))))))))), SF.spF (b := B_product_of) (n := 4) (N := ["powers", "kept", "step", "_", "power"]) (sf_seq (sf_asg (NF.ef (nf_lc (if_any (EF.yf (NF.ef nf_esort))) gf_name (tf_test (EF.bf (ef_op of_ne (EF.bf (ef_eget (bf_var 2))) (EF.bf ef_int)))) (ef_tup (af_cons (ef_var 2) (af_cons (ef_eget (bf_var 2)) af_nil))))) gf_name)
  (sf_seq (sf_if (tf_test (EF.bf (ef_op of_cmp (EF.bf (ef_cb cf_len (ab_cons (bf_var 1) ab_nil))) (EF.bf ef_int)))) sf_never sf_next)
  (sf_seq (sf_if (tf_test (EF.bf (ef_cb cf_any (ab_cons (EF.bf (NF.ef (nf_lc (if_any (yf_var 1)) (gf_tup (gsf_cons gf_name (gsf_cons gf_name (gsf_nil (vs := []))))) tf_yes (ef_op of_cmp (bf_var 2) (EF.bf ef_int))))) ab_nil)))) sf_never sf_next)
  (sf_seq (sf_if (tf_test (EF.bf (ef_cb cf_any (ab_cons (EF.bf (NF.ef (nf_lc (if_any (yf_var 1)) (gf_tup (gsf_cons gf_name (gsf_cons gf_name (gsf_nil (vs := []))))) tf_yes (ef_op of_cmp (EF.bf (ef_cb cf_abs (ab_cons (bf_var 4) ab_nil))) (EF.bf ef_int))))) ab_nil)))) sf_never sf_next)
  (sf_ret (ef_tup (af_cons ef_str (af_cons (ef_cb cf_tuple (ab_cons (bf_var 1) ab_nil)) af_nil)))))))) rfl h (fun z => nomatch z)⟩
def B_product_times_b1 : Sx :=
  (sDP 2 (xOp addF (xEG2 2 (xBo 3) (xC (.int 0))) (xBo 4)) (xBo 3))
def B_product_times : Sx :=
  (sSeq (sDrop (xCb F_check_product (aCons (xVar 0) aNil)))
  (sSeq (sDrop (xCb F_check_product (aCons (xVar 1) aNil)))
  (sSeq (sDA 2 (xOp ixF (xBo 0) (xC (.int 1))))
  (sSeq (sFor (iA (xOp ixF (xBo 1) (xC (.int 1)))) (gT 2 (gsC (gN 3) (gsC (gN 4) gsN))) B_product_times_b1)
  (fun ρ π => (sRet (xCb F_product_of (aCons (xVar 2) aNil))) (frzD 2 ρ) π)))))
def F_product_times : List D → Option D := runF 3 [false, false] B_product_times

theorem ok_product_times (T : Tx K mg) : FnOk P w K mg base CX0 6 T.f_product_times T.fd_product_times ["product", "other"] (SpF K false [false, false] F_product_times) := by
  have G_check_product := ok_check_product (P := P) (w := w) (base := base) T
  have G_product_of := ok_product_of (P := P) (w := w) (base := base) T
  refine T.F_product_times.ok sc_product_times (fun vs H Q E h => ?_) (fun cdv A outer s H vs Q E hr h => ?_)
  · obtain ⟨S, pt, ds, d, _, _, ar, _⟩ := h
    rw [ar.len.1]; rfl
  · exact ⟨_, (pss_cons (ps_expr (pe_call G_check_product (hr.mono (by decide)) (by rfl) T.m_check_product T.F_check_product.kp T.b_check_product .nil pass0 (pa_cons (pv 0) pa_nil)))
  (pss_cons (ps_expr (pe_call G_check_product (hr.mono (by decide)) (by rfl) T.m_check_product T.F_check_product.kp T.b_check_product .nil pass0 (pa_cons (pv 1) pa_nil)))
  (pss_cons (ps_set (i := 2) sc_product_times.nd rfl (.inl rfl) (pe_callTy (cr_dictA (by rfl)) (by rfl) T.z_dict (by decide +kernel) (pa_cons (pe_ix ix_seq (pv 0) pe_int (fun _ _ => rfl)) pa_nil)))
  (pss_cons (ps_for PassesOwn.never rfl (pi_any (pe_ix ix_seq (pv 1) pe_int (fun _ _ => rfl))) (pg_tup rfl (pgs_cons (pg_name (i := 3) sc_product_times.nd rfl (.inl rfl)) (pgs_cons (pg_name (i := 4) sc_product_times.nd rfl (.inl rfl)) pgs_nil))) (pss_one (ps_dput (un1of (un66 hr)) (pv 2) (pv 3) (pe_op op_addA (pe_dget2 (un1of (un66 hr)) (pv 2) (pv 3) pe_int ⟨rfl, rfl, rfl, rfl⟩) (pv 4)) rfl)))
  (pss_one (ps_frzS 2 (ps_ret (pe_call G_product_of (hr.mono (by decide)) (by rfl) T.m_product_of T.F_product_of.kp T.b_product_of .nil pass0 (pa_cons (pv 2) pa_nil))))))))), SF.spF (b := B_product_times) (n := 3) (N := ["product", "other", "powers", "step", "power"]) (sf_seq (sf_drop (EF.bf (ef_call (ga_strict (ef_var 0) ga_nil))))
  (sf_seq (sf_drop (EF.bf (ef_call (ga_strict (ef_var 1) ga_nil))))
  (sf_seq (sf_dany (ef_op of_ix (bf_var 0) (EF.bf ef_int)))
  (sf_seq (sf_for (if_any (EF.yf (ef_op of_ix (bf_var 1) (EF.bf ef_int)))) (gf_tup (gsf_cons gf_name (gsf_cons gf_name (gsf_nil (vs := []))))) (sf_dput (ef_op of_addA (EF.bf (ef_eget2 (bf_var 3) ef_int)) (bf_var 4)) (bf_var 3)))
  (sf_frzD 2 (sf_ret (ef_call (ga_strict (ef_var 2) ga_nil)))))))) rfl h (fun z => nomatch z)⟩
def B_is_form : Sx :=
  (sSeq (sIf (xNot (xT (xCb F_is_tagged (aCons (xVar 0) (aCons (xC (.str "squares")) (aCons (xC (.int 2)) aNil)))))) (sRet (xC (.bool false))) sNext)
  (sSeq (sAsg (xOp ixF (xBo 0) (xC (.int 1))) (gN 1))
  (sSeq (sIf (xOr (xNot (xT (xIsi "tuple" (xBo 1)))) (xNot (xT (xChain (cmpF fun i j => decide (i ≤ j)) (cmpF fun i j => decide (i ≤ j)) (xC (.int 1)) (xCb lenF (aCons (xBo 1) aNil)) (xC (.int 8)))))) (sRet (xC (.bool false))) sNext)
  (sSeq (sIf (xNot (xT (xCb allF (aCons (xLc (iA (xLv 1)) (gN 2) xYes (xCb F_is_within (aCons (xVar 2) (aCons (xC (.int 1)) (aCons (xC (.int 12)) aNil)))) [2]) aNil)))) (sRet (xC (.bool false))) sNext)
  (sRet (xCb allF (aCons (xLc (iZpM (xLv 1) (xSl cutA (xBo 1) (xPo (xC (.int 1))) xPn)) (gT 2 (gsC (gN 3) (gsC (gN 4) gsN))) xYes (xOp (cmpF fun i j => decide (i ≤ j)) (xBo 3) (xBo 4)) [3, 4]) aNil)))))))
def F_is_form : List D → Option D := runF 4 [false] B_is_form

theorem ok_is_form (T : Tx K mg) : FnOk P w K mg base CX0 3 T.f_is_form T.fd_is_form ["value"] (SpF K false [false] F_is_form) := by
  have G_is_tagged := ok_is_tagged (P := P) (w := w) (base := base) T
  have G_is_within := ok_is_within (P := P) (w := w) (base := base) T
  refine T.F_is_form.ok sc_is_form (fun vs H Q E h => ?_) (fun cdv A outer s H vs Q E hr h => ?_)
  · obtain ⟨S, pt, ds, d, _, _, ar, _⟩ := h
    rw [ar.len.1]; rfl
  · exact ⟨_, (pss_cons (ps_if (pt_not (pt_val (pe_call G_is_tagged (hr.mono (by decide)) (by rfl) T.m_is_tagged T.F_is_tagged.kp T.b_is_tagged .nil pass0 (pa_cons (pv 0) (pa_cons pe_str (pa_cons pe_int pa_nil)))))) (pss_one (ps_ret pe_bl)) pss_nil)
  (pss_cons (ps_set (i := 1) sc_is_form.nd rfl (.inl rfl) (pe_ix ix_seq (pv 0) pe_int (fun _ _ => rfl)))
  (pss_cons (ps_if (PW.pt (pw_or (pt_not (pt_val (pe_callB call_isi (by rfl) T.z_isinstance (by decide +kernel) (pa_cons (pv 1) (pa_cons (pe_bltn (v := .ty "tuple") (by rfl) T.z_tuple (by decide +kernel) rfl) pa_nil))))) (pw_or1 (pt_not (pt_chain op_le op_le pe_int (pe_callB call_len (by rfl) T.z_len (by decide +kernel) (pa_cons (pv 1) pa_nil)) pe_int))))) (pss_one (ps_ret pe_bl)) pss_nil)
  (pss_cons (ps_if (pt_not (pt_val (pe_callB (cr_all rfl) (by rfl) T.z_all (by decide +kernel) (pa_cons (pe_lc (own := [("weight", 2)]) (g := gName 2) (tt := tYes) (by rfl) sc_is_form.nd (pi_any (pv 1)) (blkOk_by (own := [("weight", 2)]) (N := ["value", "weights", "weight", "ahead", "behind"]) (sc := defScope s_is_form) (by decide +kernel)) (fun _ _ _ _ _ => pg_name (i := 2) sc_is_form.nd rfl (.inl rfl)) (fun _ _ _ _ _ => pts_nil) (fun _ _ _ _ _ => (pe_call G_is_within (hr.mono (by decide)) (by rfl) T.m_is_within T.F_is_within.kp T.b_is_within .nil pass0 (pa_cons (pv 2) (pa_cons pe_int (pa_cons pe_int pa_nil)))))) pa_nil)))) (pss_one (ps_ret pe_bl)) pss_nil)
  (pss_one (ps_ret (pe_callB (cr_all rfl) (by rfl) T.z_all (by decide +kernel) (pa_cons (pe_lc (own := [("ahead", 3), ("behind", 4)]) (g := gTup K 2 (gCons (gName 3) (gCons (gName 4) (gNil)))) (tt := tYes) (by rfl) sc_is_form.nd (pi_zipM (by rfl) T.z_zip (pa_cons (pv 1) (pa_cons (pe_slice sl_any (pv 1) (po_some pe_int) po_none) pa_nil))) (blkOk_by (own := [("ahead", 3), ("behind", 4)]) (N := ["value", "weights", "weight", "ahead", "behind"]) (sc := defScope s_is_form) (by decide +kernel)) (fun _ _ _ _ _ => (pg_tup rfl (pgs_cons (pg_name (i := 3) sc_is_form.nd rfl (.inl rfl)) (pgs_cons (pg_name (i := 4) sc_is_form.nd rfl (.inl rfl)) pgs_nil)))) (fun _ _ _ _ _ => pts_nil) (fun _ _ _ _ _ => (pe_cmpR op_le (pv 3) (pv 4) (nomark _)))) pa_nil)))))))), SF.spF (b := B_is_form) (n := 4) (N := ["value", "weights", "weight", "ahead", "behind"]) (sf_seq (sf_if (tf_not (tf_test (EF.bf (ef_call (ga_strict (ef_var 0) (ga_strict ef_str (ga_strict ef_int ga_nil))))))) (sf_ret ef_bool) sf_next)
  (sf_seq (sf_asg (ef_op of_ix (bf_var 0) (EF.bf ef_int)) gf_name)
  (sf_seq (sf_if (tf_or (tf_not (tf_test (EF.bf (ef_isi isi_tuple (bf_var 1))))) (tf_not (tf_test (EF.bf (ef_chain of_cmp of_cmp (EF.bf ef_int) (EF.bf (ef_cb cf_len (ab_cons (bf_var 1) ab_nil))) (EF.bf ef_int)))))) (sf_ret ef_bool) sf_next)
  (sf_seq (sf_if (tf_not (tf_test (EF.bf (ef_cb cf_all (ab_cons (EF.bf (NF.ef (nf_lc (if_any (yf_var 1)) gf_name tf_yes (ef_call (ga_strict (ef_var 2) (ga_strict ef_int (ga_strict ef_int ga_nil))))))) ab_nil))))) (sf_ret ef_bool) sf_next)
  (sf_ret (ef_cb cf_all (ab_cons (EF.bf (NF.ef (nf_lc (if_zipM (yf_var 1) (EF.yf (ef_sl sf_any (bf_var 1) (pf_some (EF.bf ef_int)) pf_none))) (gf_tup (gsf_cons gf_name (gsf_cons gf_name (gsf_nil (vs := []))))) tf_yes (ef_op of_cmp (bf_var 3) (bf_var 4))))) ab_nil))))))) rfl h (fun z => nomatch z)⟩
def B_check_form : Sx :=
  (sIf (xNot (xT (xCb F_is_form (aCons (xVar 0) aNil)))) sNever sNext)
def F_check_form : List D → Option D := runF 0 [false] B_check_form

theorem ok_check_form (T : Tx K mg) : FnOk P w K mg base CX0 4 T.f_check_form T.fd_check_form ["form"] (SpF K false [false] F_check_form) := by
  have G_is_form := ok_is_form (P := P) (w := w) (base := base) T
  refine T.F_check_form.ok sc_check_form (fun vs H Q E h => ?_) (fun cdv A outer s H vs Q E hr h => ?_)
  · obtain ⟨S, pt, ds, d, _, _, ar, _⟩ := h
    rw [ar.len.1]; rfl
  · exact ⟨_, (pss_one (ps_if (pt_not (pt_val (pe_call G_is_form (hr.mono (by decide)) (by rfl) T.m_is_form T.F_is_form.kp T.b_is_form .nil pass0 (pa_cons (pv 0) pa_nil)))) (pss_one ps_never) pss_nil)), SF.spF (b := B_check_form) (n := 0) (N := ["form"]) (sf_if (tf_not (tf_test (EF.bf (ef_call (ga_strict (ef_var 0) ga_nil))))) sf_never sf_next) rfl h (fun z => nomatch z)⟩
def B_weight_joined_b1 : Sx :=
  (sAugS 2 addI (xBo 5) (xOp mulF (xC (.int 2)) (xOp ixF (xBo 0) (xOp subF (xBo 5) (xBo 4)))))
def B_weight_joined_c1 : FL.Tx :=
  (xT (xOp (cmpF fun i j => decide (i < j)) (xOp mulF (xOp mulF (xBo 1) (xBo 3)) (xBo 3)) (xCb lenF (aCons (xBo 0) aNil))))
def B_weight_joined_w1 : Sx :=
  (sSeq (sAsg (xOp mulF (xOp mulF (xBo 1) (xBo 3)) (xBo 3)) (gN 4))
  (sSeq (sFor (iR (aCons (xBo 4) (aCons (xCb lenF (aCons (xBo 0) aNil)) aNil))) (gN 5) B_weight_joined_b1)
  (sAug 3 addI (xC (.int 1)))))
def B_weight_joined : Sx :=
  (sSeq (sAsg (xCb listF (aCons (xBo 0) aNil)) (oN 2))
  (sSeq (sAsg (xC (.int 1)) (gN 3))
  (sSeq (whGo B_weight_joined_c1 B_weight_joined_w1 10000000)
  (sRetO 2))))
def F_weight_joined : List D → Option D := runF 4 [true, false] B_weight_joined

theorem ok_weight_joined (T : Tx K mg) : FnOk P w K mg base CX0 1 T.f_weight_joined T.fd_weight_joined ["row", "weight"] (SpF K true [true, false] F_weight_joined) := by

  refine T.F_weight_joined.ok sc_weight_joined (fun vs H Q E h => ?_) (fun cdv A outer s H vs Q E hr h => ?_)
  · obtain ⟨S, pt, ds, d, _, _, ar, _⟩ := h
    rw [ar.len.1]; rfl
  · exact ⟨_, (pss_cons (ps_set (i := 2) sc_weight_joined.nd rfl (.inl rfl) (pe_callTy call_list_of (by rfl) T.z_list (by decide +kernel) (pa_cons (pv 0) pa_nil)))
  (pss_cons (ps_set (i := 3) sc_weight_joined.nd rfl (.inl rfl) pe_int)
  (pss_cons (ps_while PassesOwn.never (pt_cmpR op_lt (pe_op op_mulA (pe_op op_mulA (pv 1) (pv 3)) (pv 3)) (pe_callB call_len (by rfl) T.z_len (by decide +kernel) (pa_cons (pv 0) pa_nil)) (nomark _)) (pss_cons (ps_set (i := 4) sc_weight_joined.nd rfl (.inl rfl) (pe_op op_mulA (pe_op op_mulA (pv 1) (pv 3)) (pv 3)))
  (pss_cons (ps_for PassesOwn.never rfl (pi_range2 (by rfl) T.z_range (pa_cons (pv 4) (pa_cons (pe_callB call_len (by rfl) T.z_len (by decide +kernel) (pa_cons (pv 0) pa_nil)) pa_nil))) (pg_name (i := 5) sc_weight_joined.nd rfl (.inl rfl)) (pss_one (ps_augS (pv 2) (pv 5) get_listG (pe_op op_mulA pe_int (pe_ix ix_seq (pv 0) (pe_op op_sub (pv 5) (pv 4)) (fun _ _ => rfl))) ip_add set_list)))
  (pss_one (ps_aug (i := 3) sc_weight_joined.nd rfl (.inl rfl) pe_int ip_add)))))
  (pss_one (ps_ret (pv 2)))))), SF.spF (b := B_weight_joined) (n := 4) (N := ["row", "weight", "joined", "x", "value", "place"]) (sf_seq (sf_own (nf_cb cn_list (ab_cons (bf_var 0) ab_nil)))
  (sf_seq (sf_asg ef_int gf_name)
  (sf_seq (sf_while 10000000 (tf_test (EF.bf (ef_op of_cmp (EF.bf (ef_op of_mulA (EF.bf (ef_op of_mulA (bf_var 1) (bf_var 3))) (bf_var 3))) (EF.bf (ef_cb cf_len (ab_cons (bf_var 0) ab_nil)))))) (sf_seq (sf_asg (ef_op of_mulA (EF.bf (ef_op of_mulA (bf_var 1) (bf_var 3))) (bf_var 3)) gf_name)
  (sf_seq (sf_for (if_rng2 (bf_var 4) (EF.bf (ef_cb cf_len (ab_cons (bf_var 0) ab_nil)))) gf_name (sf_augS (bf_var 5) of_ip_add (EF.bf (ef_op of_mulA (EF.bf ef_int) (EF.bf (ef_op of_ix (bf_var 0) (EF.bf (ef_op of_sub (bf_var 5) (bf_var 4)))))))))
  (sf_aug of_ip_add (EF.bf ef_int)))))
  (sf_retO 2)))) rfl h (fun _ => (nn_seq (nn_seq (nn_seq nn_retO))))⟩
def B_row_of_ways_b1 : Sx :=
  (sAsg (xCb F_weight_joined (aCons (xBo 2) (aCons (xVar 3) aNil))) (oN 2))
def B_row_of_ways : Sx :=
  (sSeq (sAsg (xSl cutL (xOp addF (xLst (aCons (xC (.int 1)) aNil)) (xOp mulF (xLst (aCons (xC (.int 0)) aNil)) (xBo 1))) xPn (xPo (xBo 1))) (oN 2))
  (sSeq (sFor (iA (xLv 0)) (gN 3) B_row_of_ways_b1)
  (sRetO 2)))
def F_row_of_ways : List D → Option D := runF 2 [false, false] B_row_of_ways

theorem ok_row_of_ways (T : Tx K mg) : FnOk P w K mg base CX0 2 T.f_row_of_ways T.fd_row_of_ways ["weights", "many"] (SpF K true [false, false] F_row_of_ways) := by
  have G_weight_joined := ok_weight_joined (P := P) (w := w) (base := base) T
  refine T.F_row_of_ways.ok sc_row_of_ways (fun vs H Q E h => ?_) (fun cdv A outer s H vs Q E hr h => ?_)
  · obtain ⟨S, pt, ds, d, _, _, ar, _⟩ := h
    rw [ar.len.1]; rfl
  · exact ⟨_, (pss_cons (ps_set (i := 2) sc_row_of_ways.nd rfl (.inl rfl) (pe_slice sl_any (pe_op op_addA (pe_lst (pa_cons pe_int pa_nil)) (pe_op op_mulA (pe_lst (pa_cons pe_int pa_nil)) (pv 1))) po_none (po_some (pv 1))))
  (pss_cons (ps_for PassesOwn.never rfl (pi_any (pv 0)) (pg_name (i := 3) sc_row_of_ways.nd rfl (.inl rfl)) (pss_one (ps_set (i := 2) sc_row_of_ways.nd rfl (.inl rfl) (pe_call G_weight_joined (hr.mono (by decide)) (by rfl) T.m_weight_joined T.F_weight_joined.kp T.b_weight_joined .nil pass0 (pa_cons (pv 2) (pa_cons (pv 3) pa_nil))))))
  (pss_one (ps_ret (pv 2))))), SF.spF (b := B_row_of_ways) (n := 2) (N := ["weights", "many", "row", "weight"]) (sf_seq (sf_own (nf_sl sn_any (EF.bf (ef_op of_addA (EF.bf (NF.ef (nf_lst (af_cons ef_int af_nil)))) (EF.bf (ef_op of_mulA (EF.bf (NF.ef (nf_lst (af_cons ef_int af_nil)))) (bf_var 1))))) pf_none (pf_some (bf_var 1))))
  (sf_seq (sf_for (if_any (yf_var 0)) gf_name (sf_own (nf_call (ga_loose (bf_var 2) (ga_strict (ef_var 3) ga_nil)))))
  (sf_retO 2))) rfl h (fun _ => (nn_seq (nn_seq nn_retO)))⟩
def B_ways_row : Sx :=
  (sSeq (sDrop (xCb F_check_form (aCons (xVar 0) aNil)))
  (sSeq (sDrop (xCb F_check_many (aCons (xVar 1) (aCons (xC (.int 3000)) aNil))))
  (sRet (xCb F_row_of_ways (aCons (xOp ixF (xBo 0) (xC (.int 1))) (aCons (xVar 1) aNil))))))
def F_ways_row : List D → Option D := runF 0 [false, false] B_ways_row

theorem ok_ways_row (T : Tx K mg) : FnOk P w K mg base CX0 5 T.f_ways_row T.fd_ways_row ["form", "many"] (SpF K true [false, false] F_ways_row) := by
  have G_check_form := ok_check_form (P := P) (w := w) (base := base) T
  have G_check_many := ok_check_many (P := P) (w := w) (base := base) T
  have G_row_of_ways := ok_row_of_ways (P := P) (w := w) (base := base) T
  refine T.F_ways_row.ok sc_ways_row (fun vs H Q E h => ?_) (fun cdv A outer s H vs Q E hr h => ?_)
  · obtain ⟨S, pt, ds, d, _, _, ar, _⟩ := h
    rw [ar.len.1]; rfl
  · exact ⟨_, (pss_cons (ps_expr (pe_call G_check_form (hr.mono (by decide)) (by rfl) T.m_check_form T.F_check_form.kp T.b_check_form .nil pass0 (pa_cons (pv 0) pa_nil)))
  (pss_cons (ps_expr (pe_call G_check_many (hr.mono (by decide)) (by rfl) T.m_check_many T.F_check_many.kp T.b_check_many .nil pass0 (pa_cons (pv 1) (pa_cons pe_int pa_nil))))
  (pss_one (ps_ret (pe_call G_row_of_ways (hr.mono (by decide)) (by rfl) T.m_row_of_ways T.F_row_of_ways.kp T.b_row_of_ways .nil pass0 (pa_cons (pe_ix ix_seq (pv 0) pe_int (fun _ _ => rfl)) (pa_cons (pv 1) pa_nil))))))), SF.spF (b := B_ways_row) (n := 0) (N := ["form", "many"]) (sf_seq (sf_drop (EF.bf (ef_call (ga_strict (ef_var 0) ga_nil))))
  (sf_seq (sf_drop (EF.bf (ef_call (ga_strict (ef_var 1) (ga_strict ef_int ga_nil)))))
  (sf_retN (nf_call (ga_strict (ef_op of_ix (bf_var 0) (EF.bf ef_int)) (ga_strict (ef_var 1) ga_nil)))))) rfl h (fun _ => (nn_seq (nn_seq nn_ret)))⟩
def B_form_product_b1 : Sx :=
  (sDP 1 (xOp addF (xEG2 1 (xBo 3) (xC (.int 0))) (xBo 4)) (xBo 3))
def B_form_product_b2 : Sx :=
  (sFor (iA (xTup (aCons (xTup (aCons (xVar 2) (aCons (xUn negF (xC (.int 2))) aNil))) (aCons (xTup (aCons (xOp mulF (xC (.int 2)) (xBo 2)) (aCons (xC (.int 5)) aNil))) (aCons (xTup (aCons (xOp mulF (xC (.int 4)) (xBo 2)) (aCons (xUn negF (xC (.int 2))) aNil))) aNil))))) (gT 2 (gsC (gN 3) (gsC (gN 4) gsN))) B_form_product_b1)
def B_form_product : Sx :=
  (sSeq (sDrop (xCb F_check_form (aCons (xVar 0) aNil)))
  (sSeq (sDN 1)
  (sSeq (sFor (iA (xOp ixF (xBo 0) (xC (.int 1)))) (gN 2) B_form_product_b2)
  (fun ρ π => (sRet (xCb F_product_of (aCons (xVar 1) aNil))) (frzD 1 ρ) π))))
def F_form_product : List D → Option D := runF 4 [false] B_form_product

theorem ok_form_product (T : Tx K mg) : FnOk P w K mg base CX0 5 T.f_form_product T.fd_form_product ["form"] (SpF K false [false] F_form_product) := by
  have G_check_form := ok_check_form (P := P) (w := w) (base := base) T
  have G_product_of := ok_product_of (P := P) (w := w) (base := base) T
  refine T.F_form_product.ok sc_form_product (fun vs H Q E h => ?_) (fun cdv A outer s H vs Q E hr h => ?_)
  · obtain ⟨S, pt, ds, d, _, _, ar, _⟩ := h
    rw [ar.len.1]; rfl
  · exact ⟨_, (pss_cons (ps_expr (pe_call G_check_form (hr.mono (by decide)) (by rfl) T.m_check_form T.F_check_form.kp T.b_check_form .nil pass0 (pa_cons (pv 0) pa_nil)))
  (pss_cons (ps_set (i := 1) sc_form_product.nd rfl (.inl rfl) pe_dnewK)
  (pss_cons (ps_for PassesOwn.never rfl (pi_any (pe_ix ix_seq (pv 0) pe_int (fun _ _ => rfl))) (pg_name (i := 2) sc_form_product.nd rfl (.inl rfl)) (pss_one (ps_for PassesOwn.never rfl (pi_any (pe_tupF (pa_cons (pe_tupF (pa_cons (pv 2) (pa_cons (pe_un un_neg pe_int) pa_nil))) (pa_cons (pe_tupF (pa_cons (pe_op op_mulA pe_int (pv 2)) (pa_cons pe_int pa_nil))) (pa_cons (pe_tupF (pa_cons (pe_op op_mulA pe_int (pv 2)) (pa_cons (pe_un un_neg pe_int) pa_nil))) pa_nil))))) (pg_tup rfl (pgs_cons (pg_name (i := 3) sc_form_product.nd rfl (.inl rfl)) (pgs_cons (pg_name (i := 4) sc_form_product.nd rfl (.inl rfl)) pgs_nil))) (pss_one (ps_dput (un1of (un66 hr)) (pv 1) (pv 3) (pe_op op_addA (pe_dget2 (un1of (un66 hr)) (pv 1) (pv 3) pe_int ⟨rfl, rfl, rfl, rfl⟩) (pv 4)) rfl)))))
  (pss_one (ps_frzS 1 (ps_ret (pe_call G_product_of (hr.mono (by decide)) (by rfl) T.m_product_of T.F_product_of.kp T.b_product_of .nil pass0 (pa_cons (pv 1) pa_nil)))))))), SF.spF (b := B_form_product) (n := 4) (N := ["form", "powers", "weight", "step", "power"]) (sf_seq (sf_drop (EF.bf (ef_call (ga_strict (ef_var 0) ga_nil))))
  (sf_seq sf_dnew
  (sf_seq (sf_for (if_any (EF.yf (ef_op of_ix (bf_var 0) (EF.bf ef_int)))) gf_name (sf_for (if_any (EF.yf (ef_tup (af_cons (ef_tup (af_cons (ef_var 2) (af_cons (ef_neg (EF.bf ef_int)) af_nil))) (af_cons (ef_tup (af_cons (ef_op of_mulA (EF.bf ef_int) (bf_var 2)) (af_cons ef_int af_nil))) (af_cons (ef_tup (af_cons (ef_op of_mulA (EF.bf ef_int) (bf_var 2)) (af_cons (ef_neg (EF.bf ef_int)) af_nil))) af_nil)))))) (gf_tup (gsf_cons gf_name (gsf_cons gf_name (gsf_nil (vs := []))))) (sf_dput (ef_op of_addA (EF.bf (ef_eget2 (bf_var 3) ef_int)) (bf_var 4)) (bf_var 3))))
  (sf_frzD 1 (sf_ret (ef_call (ga_strict (ef_var 1) ga_nil))))))) rfl h (fun z => nomatch z)⟩
def B_joined : Sx :=
  (sSeq (sDrop (xCb F_check_form (aCons (xVar 0) aNil)))
  (sSeq (sDrop (xCb F_check_form (aCons (xVar 1) aNil)))
  (sSeq (sAsg (xCb tupleF (aCons (xCb sortXF (aCons (xOp addF (xOp ixF (xBo 0) (xC (.int 1))) (xOp ixF (xBo 1) (xC (.int 1)))) aNil)) aNil)) (gN 2))
  (sSeq (sIf (xT (xOp (cmpF fun i j => decide (j < i)) (xCb lenF (aCons (xBo 2) aNil)) (xC (.int 8)))) sNever sNext)
  (sRet (xTup (aCons (xC (.str "squares")) (aCons (xVar 2) aNil))))))))
def F_joined : List D → Option D := runF 1 [false, false] B_joined

theorem ok_joined (T : Tx K mg) : FnOk P w K mg base CX0 5 T.f_joined T.fd_joined ["form", "other"] (SpF K false [false, false] F_joined) := by
  have G_check_form := ok_check_form (P := P) (w := w) (base := base) T
  refine T.F_joined.ok sc_joined (fun vs H Q E h => ?_) (fun cdv A outer s H vs Q E hr h => ?_)
  · obtain ⟨S, pt, ds, d, _, _, ar, _⟩ := h
    rw [ar.len.1]; rfl
  · exact ⟨_, (pss_cons (ps_expr (pe_call G_check_form (hr.mono (by decide)) (by rfl) T.m_check_form T.F_check_form.kp T.b_check_form .nil pass0 (pa_cons (pv 0) pa_nil)))
  (pss_cons (ps_expr (pe_call G_check_form (hr.mono (by decide)) (by rfl) T.m_check_form T.F_check_form.kp T.b_check_form .nil pass0 (pa_cons (pv 1) pa_nil)))
  (pss_cons (ps_set (i := 2) sc_joined.nd rfl (.inl rfl) (pe_callTy cr_tupF (by rfl) T.z_tuple (by decide +kernel) (pa_cons (pe_callB cr_sortX (by rfl) T.z_sorted (by decide +kernel) (pa_cons (pe_op op_addA (pe_ix ix_seq (pv 0) pe_int (fun _ _ => rfl)) (pe_ix ix_seq (pv 1) pe_int (fun _ _ => rfl))) pa_nil)) pa_nil)))
  (pss_cons (ps_if (pt_cmpR op_gt (pe_callB call_len (by rfl) T.z_len (by decide +kernel) (pa_cons (pv 2) pa_nil)) pe_int (nomark _)) (pss_one ps_never) pss_nil)
  (pss_one (ps_ret (pe_tupF (pa_cons pe_str (pa_cons (pv 2) pa_nil))))))))), SF.spF (b := B_joined) (n := 1) (N := ["form", "other", "weights"]) (sf_seq (sf_drop (EF.bf (ef_call (ga_strict (ef_var 0) ga_nil))))
  (sf_seq (sf_drop (EF.bf (ef_call (ga_strict (ef_var 1) ga_nil))))
  (sf_seq (sf_asg (ef_cb cf_tuple (ab_cons (EF.bf (ef_cb cn_sortX.of (ab_cons (EF.bf (ef_op of_addA (EF.bf (ef_op of_ix (bf_var 0) (EF.bf ef_int))) (EF.bf (ef_op of_ix (bf_var 1) (EF.bf ef_int))))) ab_nil))) ab_nil)) gf_name)
  (sf_seq (sf_if (tf_test (EF.bf (ef_op of_cmp (EF.bf (ef_cb cf_len (ab_cons (bf_var 2) ab_nil))) (EF.bf ef_int)))) sf_never sf_next)
  (sf_ret (ef_tup (af_cons ef_str (af_cons (ef_var 2) af_nil)))))))) rfl h (fun z => nomatch z)⟩
def B_sums_of_b1 : Sx :=
  (sAugS 2 subF (xBo 4) (xOp mulF (xBo 3) (xOp ixF (xBo 0) (xBo 3))))
def B_sums_of_b2 : Sx :=
  (sIf (xT (xOp (eqF true) (xOp ixF (xBo 0) (xBo 3)) (xC (.int 0)))) (sFor (iR3 (aCons (xBo 3) (aCons (xBo 1) (aCons (xBo 3) aNil)))) (gN 4) B_sums_of_b1) sNext)
def B_sums_of : Sx :=
  (sSeq (sAsg (xOp repF (xLst (aCons (xC (.int 0)) aNil)) (xBo 1)) (oN 2))
  (sSeq (sFor (iR (aCons (xC (.int 1)) (aCons (xBo 1) aNil))) (gN 3) B_sums_of_b2)
  (sRet (xSl cutL (xBo 2) (xPo (xC (.int 1))) xPn))))
def F_sums_of : List D → Option D := runF 3 [true, false] B_sums_of

theorem ok_sums_of (T : Tx K mg) : FnOk P w K mg base CX0 1 T.f_sums_of T.fd_sums_of ["powers", "many"] (SpF K true [true, false] F_sums_of) := by

  refine T.F_sums_of.ok sc_sums_of (fun vs H Q E h => ?_) (fun cdv A outer s H vs Q E hr h => ?_)
  · obtain ⟨S, pt, ds, d, _, _, ar, _⟩ := h
    rw [ar.len.1]; rfl
  · exact ⟨_, (pss_cons (ps_set (i := 2) sc_sums_of.nd rfl (.inl rfl) (pe_op op_mulA (pe_lst (pa_cons pe_int pa_nil)) (pv 1)))
  (pss_cons (ps_for PassesOwn.never rfl (pi_range2 (by rfl) T.z_range (pa_cons pe_int (pa_cons (pv 1) pa_nil))) (pg_name (i := 3) sc_sums_of.nd rfl (.inl rfl)) (pss_one (ps_if (pt_cmpR (op_neA hr.units) (pe_ix ix_seq (pv 0) (pv 3) (fun _ _ => rfl)) pe_int (nomark _)) (pss_one (ps_for PassesOwn.never rfl (pi_range3 (by rfl) T.z_range (pa_cons (pv 3) (pa_cons (pv 1) (pa_cons (pv 3) pa_nil)))) (pg_name (i := 4) sc_sums_of.nd rfl (.inl rfl)) (pss_one (ps_augS (pv 2) (pv 4) get_listG (pe_op op_mulA (pv 3) (pe_ix ix_seq (pv 0) (pv 3) (fun _ _ => rfl))) ip_sub set_list)))) pss_nil)))
  (pss_one (ps_ret (pe_slice sl_any (pv 2) (po_some pe_int) po_none))))), SF.spF (b := B_sums_of) (n := 3) (N := ["powers", "many", "sums", "divisor", "place"]) (sf_seq (sf_own (nf_op on_mulA (EF.bf (NF.ef (nf_lst (af_cons ef_int af_nil)))) (bf_var 1)))
  (sf_seq (sf_for (if_rng2 (EF.bf ef_int) (bf_var 1)) gf_name (sf_if (tf_test (EF.bf (ef_op of_ne (EF.bf (ef_op of_ix (bf_var 0) (bf_var 3))) (EF.bf ef_int)))) (sf_for (if_rng3 (bf_var 3) (bf_var 1) (bf_var 3)) gf_name (sf_augS (bf_var 4) of_ip_sub (EF.bf (ef_op of_mulA (bf_var 3) (EF.bf (ef_op of_ix (bf_var 0) (bf_var 3))))))) sf_next))
  (sf_retN (nf_sl sn_any (bf_var 2) (pf_some (EF.bf ef_int)) pf_none)))) rfl h (fun _ => (nn_seq (nn_seq nn_ret)))⟩
def B_row_by_powers_b1 : Sx :=
  (sSeq (sAsg (xCb sumF (aCons (xLc (iZpM (xLv 2) (xRev (xBo 3))) (gT 2 (gsC (gN 6) (gsC (gN 7) gsN))) xYes (xOp mulF (xBo 6) (xBo 7)) [6, 7]) aNil)) (gN 5))
  (sApp 3 (xOp fdivF (xBo 5) (xBo 4))))
def B_row_by_powers : Sx :=
  (sSeq (sIf (xT (xOp (eqF false) (xBo 1) (xC (.int 0)))) (sRet (xLst aNil)) sNext)
  (sSeq (sAsg (xCb F_sums_of (aCons (xBo 0) (aCons (xVar 1) aNil))) (gN 2))
  (sSeq (sAsg (xLst (aCons (xC (.int 1)) aNil)) (oN 3))
  (sSeq (sFor (iR (aCons (xC (.int 1)) (aCons (xBo 1) aNil))) (gN 4) B_row_by_powers_b1)
  (sRetO 3)))))
def F_row_by_powers : List D → Option D := runF 6 [true, false] B_row_by_powers

theorem ok_row_by_powers (T : Tx K mg) : FnOk P w K mg base CX0 2 T.f_row_by_powers T.fd_row_by_powers ["powers", "many"] (SpF K true [true, false] F_row_by_powers) := by
  have G_sums_of := ok_sums_of (P := P) (w := w) (base := base) T
  refine T.F_row_by_powers.ok sc_row_by_powers (fun vs H Q E h => ?_) (fun cdv A outer s H vs Q E hr h => ?_)
  · obtain ⟨S, pt, ds, d, _, _, ar, _⟩ := h
    rw [ar.len.1]; rfl
  · exact ⟨_, (pss_cons (ps_if (pt_cmpR (op_eqA hr.units) (pv 1) pe_int (nomark _)) (pss_one (ps_ret (pe_lst pa_nil))) pss_nil)
  (pss_cons (ps_set (i := 2) sc_row_by_powers.nd rfl (.inl rfl) (pe_call G_sums_of (hr.mono (by decide)) (by rfl) T.m_sums_of T.F_sums_of.kp T.b_sums_of .nil pass0 (pa_cons (pv 0) (pa_cons (pv 1) pa_nil))))
  (pss_cons (ps_set (i := 3) sc_row_by_powers.nd rfl (.inl rfl) (pe_lst (pa_cons pe_int pa_nil)))
  (pss_cons (ps_for PassesOwn.never rfl (pi_range2 (by rfl) T.z_range (pa_cons pe_int (pa_cons (pv 1) pa_nil))) (pg_name (i := 4) sc_row_by_powers.nd rfl (.inl rfl)) (pss_cons (ps_set (i := 5) sc_row_by_powers.nd rfl (.inl rfl) (pe_callB (cr_sum rfl) (by rfl) T.z_sum (by decide +kernel) (pa_cons (pe_lc (own := [("one", 6), ("number", 7)]) (g := gTup K 2 (gCons (gName 6) (gCons (gName 7) (gNil)))) (tt := tYes) (by rfl) sc_row_by_powers.nd (pi_zipM (by rfl) T.z_zip (pa_cons (pv 2) (pa_cons (pe_revL (pv 3)) pa_nil))) (blkOk_by (own := [("one", 6), ("number", 7)]) (N := ["powers", "many", "sums", "row", "place", "total", "one", "number"]) (sc := defScope s_row_by_powers) (by decide +kernel)) (fun _ _ _ _ _ => (pg_tup rfl (pgs_cons (pg_name (i := 6) sc_row_by_powers.nd rfl (.inl rfl)) (pgs_cons (pg_name (i := 7) sc_row_by_powers.nd rfl (.inl rfl)) pgs_nil)))) (fun _ _ _ _ _ => pts_nil) (fun _ _ _ _ _ => (pe_op op_mulA (pv 6) (pv 7)))) pa_nil)))
  (pss_one (ps_expr (pe_bm PySem.F.plainAttrs_list PySem.F.slot_list_append PySem.F.type_list_append mt_append (pv 3) (pa_cons (pe_op op_fdivX (pv 5) (pv 4)) pa_nil))))))
  (pss_one (ps_ret (pv 3))))))), SF.spF (b := B_row_by_powers) (n := 6) (N := ["powers", "many", "sums", "row", "place", "total", "one", "number"]) (sf_seq (sf_if (tf_test (EF.bf (ef_op of_eq (bf_var 1) (EF.bf ef_int)))) (sf_retN (nf_lst af_nil)) sf_next)
  (sf_seq (sf_asg (NF.ef (nf_call (ga_loose (bf_var 0) (ga_strict (ef_var 1) ga_nil)))) gf_name)
  (sf_seq (sf_own (nf_lst (af_cons ef_int af_nil)))
  (sf_seq (sf_for (if_rng2 (EF.bf ef_int) (bf_var 1)) gf_name (sf_seq (sf_asg (ef_cb cf_sum (ab_cons (EF.bf (NF.ef (nf_lc (if_zipM (yf_var 2) (EF.yf (NF.ef (nf_rev (bf_var 3))))) (gf_tup (gsf_cons gf_name (gsf_cons gf_name (gsf_nil (vs := []))))) tf_yes (ef_op of_mulA (bf_var 6) (bf_var 7))))) ab_nil)) gf_name)
  (sf_app (ef_op of_fdiv (bf_var 5) (bf_var 4)))))
  (sf_retO 3))))) rfl h (fun _ => (nn_seq (nn_seq (nn_seq (nn_seq nn_retO)))))⟩
def B_numbers_of_b1 : Sx :=
  (sAugS 2 addI (xBo 5) (xBo 4))
def B_numbers_of_b2 : Sx :=
  (sFor (iR3 (aCons (xBo 3) (aCons (xBo 1) (aCons (xBo 3) aNil)))) (gN 5) B_numbers_of_b1)
def B_numbers_of : Sx :=
  (sSeq (sAsg (xOp repF (xLst (aCons (xC (.int 0)) aNil)) (xBo 1)) (oN 2))
  (sSeq (sFor (iA (xOp ixF (xBo 0) (xC (.int 1)))) (gT 2 (gsC (gN 3) (gsC (gN 4) gsN))) B_numbers_of_b2)
  (sRet (xCb F_row_by_powers (aCons (xBo 2) (aCons (xVar 1) aNil))))))
def F_numbers_of : List D → Option D := runF 4 [false, false] B_numbers_of

theorem ok_numbers_of (T : Tx K mg) : FnOk P w K mg base CX0 3 T.f_numbers_of T.fd_numbers_of ["product", "many"] (SpF K true [false, false] F_numbers_of) := by
  have G_row_by_powers := ok_row_by_powers (P := P) (w := w) (base := base) T
  refine T.F_numbers_of.ok sc_numbers_of (fun vs H Q E h => ?_) (fun cdv A outer s H vs Q E hr h => ?_)
  · obtain ⟨S, pt, ds, d, _, _, ar, _⟩ := h
    rw [ar.len.1]; rfl
  · exact ⟨_, (pss_cons (ps_set (i := 2) sc_numbers_of.nd rfl (.inl rfl) (pe_op op_mulA (pe_lst (pa_cons pe_int pa_nil)) (pv 1)))
  (pss_cons (ps_for PassesOwn.never rfl (pi_any (pe_ix ix_seq (pv 0) pe_int (fun _ _ => rfl))) (pg_tup rfl (pgs_cons (pg_name (i := 3) sc_numbers_of.nd rfl (.inl rfl)) (pgs_cons (pg_name (i := 4) sc_numbers_of.nd rfl (.inl rfl)) pgs_nil))) (pss_one (ps_for PassesOwn.never rfl (pi_range3 (by rfl) T.z_range (pa_cons (pv 3) (pa_cons (pv 1) (pa_cons (pv 3) pa_nil)))) (pg_name (i := 5) sc_numbers_of.nd rfl (.inl rfl)) (pss_one (ps_augS (pv 2) (pv 5) get_listG (pv 4) ip_add set_list)))))
  (pss_one (ps_ret (pe_call G_row_by_powers (hr.mono (by decide)) (by rfl) T.m_row_by_powers T.F_row_by_powers.kp T.b_row_by_powers .nil pass0 (pa_cons (pv 2) (pa_cons (pv 1) pa_nil))))))), SF.spF (b := B_numbers_of) (n := 4) (N := ["product", "many", "powers", "step", "power", "place"]) (sf_seq (sf_own (nf_op on_mulA (EF.bf (NF.ef (nf_lst (af_cons ef_int af_nil)))) (bf_var 1)))
  (sf_seq (sf_for (if_any (EF.yf (ef_op of_ix (bf_var 0) (EF.bf ef_int)))) (gf_tup (gsf_cons gf_name (gsf_cons gf_name (gsf_nil (vs := []))))) (sf_for (if_rng3 (bf_var 3) (bf_var 1) (bf_var 3)) gf_name (sf_augS (bf_var 5) of_ip_add (bf_var 4))))
  (sf_retN (nf_call (ga_loose (bf_var 2) (ga_strict (ef_var 1) ga_nil)))))) rfl h (fun _ => (nn_seq (nn_seq nn_ret)))⟩
def B_product_row : Sx :=
  (sSeq (sDrop (xCb F_check_product (aCons (xVar 0) aNil)))
  (sSeq (sDrop (xCb F_check_many (aCons (xVar 1) (aCons (xC (.int 3000)) aNil))))
  (sSeq (sAsg (xCb F_numbers_of (aCons (xVar 0) (aCons (xVar 1) aNil))) (oN 2))
  (sSeq (sDrop (xCb F_check_digits (aCons (xBo 2) aNil)))
  (sRetO 2)))))
def F_product_row : List D → Option D := runF 1 [false, false] B_product_row

theorem ok_product_row (T : Tx K mg) : FnOk P w K mg base CX0 6 T.f_product_row T.fd_product_row ["product", "many"] (SpF K true [false, false] F_product_row) := by
  have G_check_digits := ok_check_digits (P := P) (w := w) (base := base) T
  have G_check_many := ok_check_many (P := P) (w := w) (base := base) T
  have G_check_product := ok_check_product (P := P) (w := w) (base := base) T
  have G_numbers_of := ok_numbers_of (P := P) (w := w) (base := base) T
  refine T.F_product_row.ok sc_product_row (fun vs H Q E h => ?_) (fun cdv A outer s H vs Q E hr h => ?_)
  · obtain ⟨S, pt, ds, d, _, _, ar, _⟩ := h
    rw [ar.len.1]; rfl
  · exact ⟨_, (pss_cons (ps_expr (pe_call G_check_product (hr.mono (by decide)) (by rfl) T.m_check_product T.F_check_product.kp T.b_check_product .nil pass0 (pa_cons (pv 0) pa_nil)))
  (pss_cons (ps_expr (pe_call G_check_many (hr.mono (by decide)) (by rfl) T.m_check_many T.F_check_many.kp T.b_check_many .nil pass0 (pa_cons (pv 1) (pa_cons pe_int pa_nil))))
  (pss_cons (ps_set (i := 2) sc_product_row.nd rfl (.inl rfl) (pe_call G_numbers_of (hr.mono (by decide)) (by rfl) T.m_numbers_of T.F_numbers_of.kp T.b_numbers_of .nil pass0 (pa_cons (pv 0) (pa_cons (pv 1) pa_nil))))
  (pss_cons (ps_expr (pe_call G_check_digits (hr.mono (by decide)) (by rfl) T.m_check_digits T.F_check_digits.kp T.b_check_digits .nil pass0 (pa_cons (pv 2) pa_nil)))
  (pss_one (ps_ret (pv 2))))))), SF.spF (b := B_product_row) (n := 1) (N := ["product", "many", "row"]) (sf_seq (sf_drop (EF.bf (ef_call (ga_strict (ef_var 0) ga_nil))))
  (sf_seq (sf_drop (EF.bf (ef_call (ga_strict (ef_var 1) (ga_strict ef_int ga_nil)))))
  (sf_seq (sf_own (nf_call (ga_strict (ef_var 0) (ga_strict (ef_var 1) ga_nil))))
  (sf_seq (sf_drop (EF.bf (ef_call (ga_loose (bf_var 2) ga_nil))))
  (sf_retO 2))))) rfl h (fun _ => (nn_seq (nn_seq (nn_seq (nn_seq nn_retO)))))⟩
def B_law_pot : Sx :=
  (sSeq (sAsg (xOp addF (xOp mulF (xC (.int 131)) (xBo 1)) (xC (.int 75))) (gN 2))
  (sSeq (sIf (xT (xOp (cmpF fun i j => decide (i < j)) (xBo 1) (xScrLen 0))) (sAsg (xCb absF (aCons (xScrIx 0 (xBo 1)) aNil)) (gN 2)) sNext)
  (sRet (xLst (aCons (xCb max2F (aCons (xC (.int 0)) (aCons (xOp subF (xBo 2) (xOp powF (xC (.int 10)) (xC (.int 18)))) aNil))) (aCons (xOp addF (xOp modF (xOp mulF (xCb toIntF (aCons (xOp addF (xOp modF (xCb toIntF (aCons (xBo 2) aNil)) (xC (.int 2147483549))) (xC (.int 75))) aNil)) (xOp powF (xOp addF (xOp mulF (xC (.int 2)) (xBo 1)) (xC (.int 3))) (xC (.int 3)))) (xC (.int 2147483477))) (xC (.int 1))) aNil))))))
def F_law_pot : List Int → D → Option D := runS 1 B_law_pot

theorem ok_law_pot (T : Tx K mg) : FnOk P w K mg base CX0 1 T.f_law_pot T.fd_law_pot ["script", "k"] (SpS K F_law_pot) := by
  refine T.F_law_pot.ok sc_law_pot (fun vs H Q E h => ?_) (fun cdv A outer s H vs Q E hr h => ?_)
  · obtain ⟨a, ns, k, r, rfl, _⟩ := h
    rfl
  · exact ⟨_, (pss_cons (ps_set (i := 2) sc_law_pot.nd rfl (.inl rfl) (pe_op op_addA (pe_op op_mulA pe_int (pv 1)) pe_int))
  (pss_cons (ps_if (pt_cmpR op_lt (pv 1) (pe_callB call_len (by rfl) T.z_len (by decide +kernel) (pa_cons (pv 0) pa_nil)) (nomark _)) (pss_one (ps_set (i := 2) sc_law_pot.nd rfl (.inl rfl) (pe_callB call_abs (by rfl) T.z_abs (by decide +kernel) (pa_cons (pe_ix ix_seq (pv 0) (pv 1) (fun _ _ => rfl)) pa_nil)))) pss_nil)
  (pss_one (ps_ret (pe_lst (pa_cons (pe_callB (call_max2 rfl) (by rfl) T.z_max (by decide +kernel) (pa_cons pe_int (pa_cons (pe_op op_sub (pv 2) (pe_op op_powX pe_int pe_int)) pa_nil))) (pa_cons (pe_op op_addA (pe_op op_modN (pe_op op_mulA (pe_callTy call_int1 (by rfl) T.z_int (by decide +kernel) (pa_cons (pe_op op_addA (pe_op op_modN (pe_callTy call_int1 (by rfl) T.z_int (by decide +kernel) (pa_cons (pv 2) pa_nil)) pe_int) pe_int) pa_nil)) (pe_op op_powX (pe_op op_addA (pe_op op_mulA pe_int (pv 1)) pe_int) pe_int)) pe_int) pe_int) pa_nil))))))), SF.spS (b := B_law_pot) (n := 1) (N := ["script", "k", "cell"]) (sf_seq (sf_asg (ef_op of_addA (EF.bf (ef_op of_mulA (EF.bf ef_int) (bf_var 1))) (EF.bf ef_int)) gf_name)
  (sf_seq (sf_if (tf_test (EF.bf (ef_op of_cmp (bf_var 1) (EF.bf ef_scrLen)))) (sf_asg (ef_cb cf_abs (ab_cons (EF.bf (ef_scrIx (bf_var 1))) ab_nil)) gf_name) sf_next)
  (sf_retN (nf_lst (af_cons (ef_cb cf_max2 (ab_cons (EF.bf ef_int) (ab_cons (EF.bf (ef_op of_sub (bf_var 2) (EF.bf (ef_op of_pow (EF.bf ef_int) (EF.bf ef_int))))) ab_nil))) (af_cons (ef_op of_addA (EF.bf (ef_op of_mod (EF.bf (ef_op of_mulA (EF.bf (ef_cb cf_int (ab_cons (EF.bf (ef_op of_addA (EF.bf (ef_op of_mod (EF.bf (ef_cb cf_int (ab_cons (bf_var 2) ab_nil))) (EF.bf ef_int))) (EF.bf ef_int))) ab_nil))) (EF.bf (ef_op of_pow (EF.bf (ef_op of_addA (EF.bf (ef_op of_mulA (EF.bf ef_int) (bf_var 1))) (EF.bf ef_int))) (EF.bf ef_int))))) (EF.bf ef_int))) (EF.bf ef_int)) af_nil)))))) rfl h (nn_seq (nn_seq nn_ret))⟩
def B_law_pick : Sx :=
  (sRet (xOp ixF (xBo 1) (xCallP 0 F_law_draw (aCons (xCb lenF (aCons (xBo 1) aNil)) aNil))))
def F_law_pick : Pot → List D → Option (D × Pot) := runP 0 [false] B_law_pick

theorem ok_law_pick (T : Tx K mg) : FnOk P w K mg base CX0 2 T.f_law_pick T.fd_law_pick ["pot", "some"] (SpP K false [false] F_law_pick) := by
  have G_law_draw := ok_law_draw (P := P) (w := w) (base := base) T
  refine T.F_law_pick.ok sc_law_pick (fun vs H Q E h => ?_) (fun cdv A outer s H vs Q E hr h => ?_)
  · obtain ⟨S, a, ws, π, ds, d, π', rfl, _, _, _, ar, _⟩ := h
    show ws.length + 1 = _
    rw [ar.len.1]; rfl
  · exact ⟨_, (pss_one (ps_ret (pe_ix ix_seq (pv 1) (pe_call G_law_draw (hr.mono (by decide)) (by rfl) T.m_law_draw T.F_law_draw.kp T.b_law_draw .nil pass0 (pa_cons (pv 0) (pa_cons (pe_callB call_len (by rfl) T.z_len (by decide +kernel) (pa_cons (pv 1) pa_nil)) pa_nil))) (fun _ _ => rfl)))), SF.spP (b := B_law_pick) (n := 0) (N := ["pot", "some"]) (sf_ret (ef_op of_ix (bf_var 1) (EF.bf (ef_callP (ga_strict (ef_cb cf_len (ab_cons (bf_var 1) ab_nil)) ga_nil))))) rfl h (fun z => nomatch z)⟩
def B_law_most_c1 : FL.Tx :=
  (xT (xOp (cmpF fun i j => decide (i ≤ j)) (xOp mulF (xOp mulF (xBo 0) (xOp addF (xBo 2) (xC (.int 1)))) (xOp addF (xBo 2) (xC (.int 1)))) (xBo 1)))
def B_law_most_w1 : Sx :=
  (sAsg (xOp addF (xBo 2) (xC (.int 1))) (gN 2))
def B_law_most : Sx :=
  (sSeq (sAsg (xC (.int 0)) (gN 2))
  (sSeq (whGo B_law_most_c1 B_law_most_w1 10000000)
  (sRet (xVar 2))))
def F_law_most : List D → Option D := runF 1 [false, false] B_law_most

theorem ok_law_most (T : Tx K mg) : FnOk P w K mg base CX0 1 T.f_law_most T.fd_law_most ["weight", "number"] (SpF K false [false, false] F_law_most) := by

  refine T.F_law_most.ok sc_law_most (fun vs H Q E h => ?_) (fun cdv A outer s H vs Q E hr h => ?_)
  · obtain ⟨S, pt, ds, d, _, _, ar, _⟩ := h
    rw [ar.len.1]; rfl
  · exact ⟨_, (pss_cons (ps_set (i := 2) sc_law_most.nd rfl (.inl rfl) pe_int)
  (pss_cons (ps_while PassesOwn.never (pt_cmpR op_le (pe_op op_mulA (pe_op op_mulA (pv 0) (pe_op op_addA (pv 2) pe_int)) (pe_op op_addA (pv 2) pe_int)) (pv 1) (nomark _)) (pss_one (ps_set (i := 2) sc_law_most.nd rfl (.inl rfl) (pe_op op_addA (pv 2) pe_int))))
  (pss_one (ps_ret (pv 2))))), SF.spF (b := B_law_most) (n := 1) (N := ["weight", "number", "found"]) (sf_seq (sf_asg ef_int gf_name)
  (sf_seq (sf_while 10000000 (tf_test (EF.bf (ef_op of_cmp (EF.bf (ef_op of_mulA (EF.bf (ef_op of_mulA (bf_var 0) (EF.bf (ef_op of_addA (bf_var 2) (EF.bf ef_int))))) (EF.bf (ef_op of_addA (bf_var 2) (EF.bf ef_int))))) (bf_var 1)))) (sf_asg (ef_op of_addA (bf_var 2) (EF.bf ef_int)) gf_name))
  (sf_ret (ef_var 2)))) rfl h (fun z => nomatch z)⟩
def B_law_row_b1 : Sx :=
  (sSeq (sAsg (xCb F_law_most (aCons (xVar 3) (aCons (xVar 5) aNil))) (gN 6))
  (sApp 4 (xCb sumF (aCons (xLc (iR (aCons (xUn negF (xBo 6)) (aCons (xOp addF (xBo 6) (xC (.int 1))) aNil))) (gN 7) xYes (xOp ixF (xBo 2) (xOp subF (xBo 5) (xOp mulF (xOp mulF (xBo 3) (xBo 7)) (xBo 7)))) [7]) aNil))))
def B_law_row_b2 : Sx :=
  (sSeq (sAsg (xLst aNil) (oN 4))
  (sSeq (sFor (iR (aCons (xBo 1) aNil)) (gN 5) B_law_row_b1)
  (fun ρ π => (sAsg (xVar 4) (gN 2)) (frz 4 ρ) π)))
def B_law_row : Sx :=
  (sSeq (sAsg (xOp addF (xLst (aCons (xC (.int 1)) aNil)) (xOp mulF (xLst (aCons (xC (.int 0)) aNil)) (xBo 1))) (gN 2))
  (sSeq (sAsg (xSl cutA (xBo 2) xPn (xPo (xBo 1))) (gN 2))
  (sSeq (sFor (iA (xLv 0)) (gN 3) B_law_row_b2)
  (sRet (xVar 2)))))
def F_law_row : List D → Option D := runF 6 [false, false] B_law_row

theorem ok_law_row (T : Tx K mg) : FnOk P w K mg base CX0 2 T.f_law_row T.fd_law_row ["weights", "many"] (SpF K false [false, false] F_law_row) := by
  have G_law_most := ok_law_most (P := P) (w := w) (base := base) T
  refine T.F_law_row.ok sc_law_row (fun vs H Q E h => ?_) (fun cdv A outer s H vs Q E hr h => ?_)
  · obtain ⟨S, pt, ds, d, _, _, ar, _⟩ := h
    rw [ar.len.1]; rfl
  · exact ⟨_, (pss_cons (ps_set (i := 2) sc_law_row.nd rfl (.inr rfl) (pe_op op_addA (pe_lst (pa_cons pe_int pa_nil)) (pe_op op_mulA (pe_lst (pa_cons pe_int pa_nil)) (pv 1))))
  (pss_cons (ps_set (i := 2) sc_law_row.nd rfl (.inr rfl) (pe_slice sl_any (pv 2) po_none (po_some (pv 1))))
  (pss_cons (ps_for PassesOwn.never rfl (pi_any (pv 0)) (pg_name (i := 3) sc_law_row.nd rfl (.inr rfl)) (pss_cons (ps_set (i := 4) sc_law_row.nd rfl (.inl rfl) (pe_lst pa_nil))
  (pss_cons (ps_for PassesOwn.never rfl (pi_range1 (by rfl) T.z_range (pa_cons (pv 1) pa_nil)) (pg_name (i := 5) sc_law_row.nd rfl (.inr rfl)) (pss_cons (ps_set (i := 6) sc_law_row.nd rfl (.inl rfl) (pe_call G_law_most (hr.mono (by decide)) (by rfl) T.m_law_most T.F_law_most.kp T.b_law_most .nil pass0 (pa_cons (pv 3) (pa_cons (pv 5) pa_nil))))
  (pss_one (ps_expr (pe_bm PySem.F.plainAttrs_list PySem.F.slot_list_append PySem.F.type_list_append mt_append (pv 4) (pa_cons (pe_callB (cr_sum rfl) (by rfl) T.z_sum (by decide +kernel) (pa_cons (pe_lc (own := [("one", 7)]) (g := gName 7) (tt := tYes) (by rfl) sc_law_row.nd (pi_range2 (by rfl) T.z_range (pa_cons (pe_un un_neg (pv 6)) (pa_cons (pe_op op_addA (pv 6) pe_int) pa_nil))) (blkOk_by (own := [("one", 7)]) (N := ["weights", "many", "found", "weight", "late", "place", "most", "one"]) (sc := defScope s_law_row) (by decide +kernel)) (fun _ _ _ _ _ => pg_name (i := 7) sc_law_row.nd rfl (.inl rfl)) (fun _ _ _ _ _ => pts_nil) (fun _ _ _ _ _ => (pe_ix ix_seq (pv 2) (pe_op op_sub (pv 5) (pe_op op_mulA (pe_op op_mulA (pv 3) (pv 7)) (pv 7))) (fun _ _ => rfl)))) pa_nil)) pa_nil))))))
  (pss_one (ps_set (i := 2) sc_law_row.nd rfl (.inr rfl) (pv 4))))))
  (pss_one (ps_ret (pv 2)))))), SF.spF (b := B_law_row) (n := 6) (N := ["weights", "many", "found", "weight", "late", "place", "most", "one"]) (sf_seq (sf_asg (ef_op of_addA (EF.bf (NF.ef (nf_lst (af_cons ef_int af_nil)))) (EF.bf (ef_op of_mulA (EF.bf (NF.ef (nf_lst (af_cons ef_int af_nil)))) (bf_var 1)))) gf_name)
  (sf_seq (sf_asg (ef_sl sf_any (bf_var 2) pf_none (pf_some (bf_var 1))) gf_name)
  (sf_seq (sf_for (if_any (yf_var 0)) gf_name (sf_seq (sf_own (nf_lst af_nil))
  (sf_seq (sf_for (if_rng1 (bf_var 1)) gf_name (sf_seq (sf_asg (ef_call (ga_strict (ef_var 3) (ga_strict (ef_var 5) ga_nil))) gf_name)
  (sf_app (ef_cb cf_sum (ab_cons (EF.bf (NF.ef (nf_lc (if_rng2 (EF.bf (ef_neg (bf_var 6))) (EF.bf (ef_op of_addA (bf_var 6) (EF.bf ef_int)))) gf_name tf_yes (ef_op of_ix (bf_var 2) (EF.bf (ef_op of_sub (bf_var 5) (EF.bf (ef_op of_mulA (EF.bf (ef_op of_mulA (bf_var 3) (bf_var 7))) (bf_var 7))))))))) ab_nil)))))
  (sf_frz 4 (sf_asg (ef_var 4) gf_name)))))
  (sf_ret (ef_var 2))))) rfl h (fun z => nomatch z)⟩
def B_law_weights_b1 : Sx :=
  (sApp 3 (xCallP 0 F_law_pick (aCons (xLst (aCons (xC (.int 1)) (aCons (xC (.int 1)) (aCons (xC (.int 1)) (aCons (xC (.int 2)) (aCons (xC (.int 2)) (aCons (xC (.int 3)) (aCons (xC (.int 4)) (aCons (xC (.int 5)) (aCons (xC (.int 6)) (aCons (xC (.int 7)) (aCons (xC (.int 9)) (aCons (xC (.int 12)) aNil))))))))))))) aNil)))
def B_law_weights : Sx :=
  (sSeq (sAsg (xLst aNil) (oN 3))
  (sSeq (sFor (iR (aCons (xOp addF (xBo 1) (xCallP 0 F_law_draw (aCons (xOp addF (xOp subF (xBo 2) (xBo 1)) (xC (.int 1))) aNil))) aNil)) (gN 4) B_law_weights_b1)
  (sRet (xCb tupleF (aCons (xCb sortXF (aCons (xBo 3) aNil)) aNil)))))
def F_law_weights : Pot → List D → Option (D × Pot) := runP 2 [false, false] B_law_weights

theorem ok_law_weights (T : Tx K mg) : FnOk P w K mg base CX0 3 T.f_law_weights T.fd_law_weights ["pot", "least", "most"] (SpP K false [false, false] F_law_weights) := by
  have G_law_draw := ok_law_draw (P := P) (w := w) (base := base) T
  have G_law_pick := ok_law_pick (P := P) (w := w) (base := base) T
  refine T.F_law_weights.ok sc_law_weights (fun vs H Q E h => ?_) (fun cdv A outer s H vs Q E hr h => ?_)
  · obtain ⟨S, a, ws, π, ds, d, π', rfl, _, _, _, ar, _⟩ := h
    show ws.length + 1 = _
    rw [ar.len.1]; rfl
  · exact ⟨_, (pss_cons (ps_set (i := 3) sc_law_weights.nd rfl (.inl rfl) (pe_lst pa_nil))
  (pss_cons (ps_for PassesOwn.never rfl (pi_range1 (by rfl) T.z_range (pa_cons (pe_op op_addA (pv 1) (pe_call G_law_draw (hr.mono (by decide)) (by rfl) T.m_law_draw T.F_law_draw.kp T.b_law_draw .nil pass0 (pa_cons (pv 0) (pa_cons (pe_op op_addA (pe_op op_sub (pv 2) (pv 1)) pe_int) pa_nil)))) pa_nil)) (pg_name (i := 4) sc_law_weights.nd rfl (.inl rfl)) (pss_one (ps_expr (pe_bm PySem.F.plainAttrs_list PySem.F.slot_list_append PySem.F.type_list_append mt_append (pv 3) (pa_cons (pe_call G_law_pick (hr.mono (by decide)) (by rfl) T.m_law_pick T.F_law_pick.kp T.b_law_pick .nil pass0 (pa_cons (pv 0) (pa_cons (pe_lst (pa_cons pe_int (pa_cons pe_int (pa_cons pe_int (pa_cons pe_int (pa_cons pe_int (pa_cons pe_int (pa_cons pe_int (pa_cons pe_int (pa_cons pe_int (pa_cons pe_int (pa_cons pe_int (pa_cons pe_int pa_nil))))))))))))) pa_nil))) pa_nil)))))
  (pss_one (ps_ret (pe_callTy cr_tupF (by rfl) T.z_tuple (by decide +kernel) (pa_cons (pe_callB cr_sortX (by rfl) T.z_sorted (by decide +kernel) (pa_cons (pv 3) pa_nil)) pa_nil)))))), SF.spP (b := B_law_weights) (n := 2) (N := ["pot", "least", "most", "found", "turn"]) (sf_seq (sf_own (nf_lst af_nil))
  (sf_seq (sf_for (if_rng1 (EF.bf (ef_op of_addA (bf_var 1) (EF.bf (ef_callP (ga_strict (ef_op of_addA (EF.bf (ef_op of_sub (bf_var 2) (bf_var 1))) (EF.bf ef_int)) ga_nil)))))) gf_name (sf_app (ef_callP (ga_strict (NF.ef (nf_lst (af_cons ef_int (af_cons ef_int (af_cons ef_int (af_cons ef_int (af_cons ef_int (af_cons ef_int (af_cons ef_int (af_cons ef_int (af_cons ef_int (af_cons ef_int (af_cons ef_int (af_cons ef_int af_nil)))))))))))))) ga_nil))))
  (sf_ret (ef_cb cf_tuple (ab_cons (EF.bf (ef_cb cn_sortX.of (ab_cons (bf_var 3) ab_nil))) ab_nil))))) rfl h (fun z => nomatch z)⟩
def B_law_powers_b1 : Sx :=
  (sDP 1 (xOp addF (xEG2 1 (xBo 3) (xC (.int 0))) (xBo 4)) (xBo 3))
def B_law_powers_b2 : Sx :=
  (sFor (iA (xLst (aCons (xTup (aCons (xVar 2) (aCons (xUn negF (xC (.int 2))) aNil))) (aCons (xTup (aCons (xOp mulF (xC (.int 2)) (xBo 2)) (aCons (xC (.int 5)) aNil))) (aCons (xTup (aCons (xOp mulF (xC (.int 4)) (xBo 2)) (aCons (xUn negF (xC (.int 2))) aNil))) aNil))))) (gT 2 (gsC (gN 3) (gsC (gN 4) gsN))) B_law_powers_b1)
def B_law_powers : Sx :=
  (sSeq (sDN 1)
  (sSeq (sFor (iA (xLv 0)) (gN 2) B_law_powers_b2)
  (sRet (xCb tupleF (aCons (xLc (iA (xCb sortXF (aCons (xEKeys 1) aNil))) (gN 3) (xT (xOp (eqF true) (xEG 1 (xBo 3)) (xC (.int 0)))) (xTup (aCons (xVar 3) (aCons (xEG 1 (xBo 3)) aNil))) [3]) aNil)))))
def F_law_powers : List D → Option D := runF 4 [false] B_law_powers

theorem ok_law_powers (T : Tx K mg) : FnOk P w K mg base CX0 1 T.f_law_powers T.fd_law_powers ["weights"] (SpF K false [false] F_law_powers) := by

  refine T.F_law_powers.ok sc_law_powers (fun vs H Q E h => ?_) (fun cdv A outer s H vs Q E hr h => ?_)
  · obtain ⟨S, pt, ds, d, _, _, ar, _⟩ := h
    rw [ar.len.1]; rfl
  · exact ⟨_, (pss_cons (ps_set (i := 1) sc_law_powers.nd rfl (.inr rfl) pe_dnewK)
  (pss_cons (ps_for PassesOwn.never rfl (pi_any (pv 0)) (pg_name (i := 2) sc_law_powers.nd rfl (.inl rfl)) (pss_one (ps_for PassesOwn.never rfl (pi_any (pe_lst (pa_cons (pe_tupF (pa_cons (pv 2) (pa_cons (pe_un un_neg pe_int) pa_nil))) (pa_cons (pe_tupF (pa_cons (pe_op op_mulA pe_int (pv 2)) (pa_cons pe_int pa_nil))) (pa_cons (pe_tupF (pa_cons (pe_op op_mulA pe_int (pv 2)) (pa_cons (pe_un un_neg pe_int) pa_nil))) pa_nil))))) (pg_tup rfl (pgs_cons (pg_name (i := 3) sc_law_powers.nd rfl (.inl rfl)) (pgs_cons (pg_name (i := 4) sc_law_powers.nd rfl (.inl rfl)) pgs_nil))) (pss_one (ps_dput (un1of (un66 hr)) (pv 1) (pv 3) (pe_op op_addA (pe_dget2 (un1of (un66 hr)) (pv 1) (pv 3) pe_int ⟨rfl, rfl, rfl, rfl⟩) (pv 4)) rfl)))))
  (pss_one (ps_ret (pe_callTy cr_tupF (by rfl) T.z_tuple (by decide +kernel) (pa_cons (pe_lc (own := [("step", 3)]) (g := gName 3) (by rfl) sc_law_powers.nd (pi_any (pe_callB cr_sortX (by rfl) T.z_sorted (by decide +kernel) (pa_cons (pe_callTy (cr_listD (by rfl)) (by rfl) T.z_list (by decide +kernel) (pa_cons (pv 1) pa_nil)) pa_nil))) (blkOk_by (own := [("step", 3)]) (N := ["weights", "found", "weight", "step", "power"]) (sc := defScope s_law_powers) (by decide +kernel)) (fun _ _ _ _ _ => pg_name (i := 3) sc_law_powers.nd rfl (.inl rfl)) (fun _ _ _ _ _ => (pts_one (pt_cmpR (op_neA hr.units) (pe_dget (un1of (un66 hr)) (pv 1) (pv 3) (fun _ _ => rfl)) pe_int (nomark _)))) (fun _ _ _ _ _ => (pe_tupF (pa_cons (pv 3) (pa_cons (pe_dget (un1of (un66 hr)) (pv 1) (pv 3) (fun _ _ => rfl)) pa_nil))))) pa_nil)))))), SF.spF (b := B_law_powers) (n := 4) (N := ["weights", "found", "weight", "step", "power"]) (sf_seq sf_dnew
  (sf_seq (sf_for (if_any (yf_var 0)) gf_name (sf_for (if_any (EF.yf (NF.ef (nf_lst (af_cons (ef_tup (af_cons (ef_var 2) (af_cons (ef_neg (EF.bf ef_int)) af_nil))) (af_cons (ef_tup (af_cons (ef_op of_mulA (EF.bf ef_int) (bf_var 2)) (af_cons ef_int af_nil))) (af_cons (ef_tup (af_cons (ef_op of_mulA (EF.bf ef_int) (bf_var 2)) (af_cons (ef_neg (EF.bf ef_int)) af_nil))) af_nil))))))) (gf_tup (gsf_cons gf_name (gsf_cons gf_name (gsf_nil (vs := []))))) (sf_dput (ef_op of_addA (EF.bf (ef_eget2 (bf_var 3) ef_int)) (bf_var 4)) (bf_var 3))))
  (sf_ret (ef_cb cf_tuple (ab_cons (EF.bf (NF.ef (nf_lc (if_any (EF.yf (ef_cb cn_sortX.of (ab_cons (EF.bf (NF.ef nf_ekeys)) ab_nil)))) gf_name (tf_test (EF.bf (ef_op of_ne (EF.bf (ef_eget (bf_var 3))) (EF.bf ef_int)))) (ef_tup (af_cons (ef_var 3) (af_cons (ef_eget (bf_var 3)) af_nil)))))) ab_nil))))) rfl h (fun z => nomatch z)⟩
def B_law_rows_times_b1 : Sx :=
  (sApp 2 (xCb sumF (aCons (xLc (iR (aCons (xOp addF (xBo 3) (xC (.int 1))) aNil)) (gN 4) xYes (xOp mulF (xOp ixF (xBo 0) (xBo 4)) (xOp ixF (xBo 1) (xOp subF (xBo 3) (xBo 4)))) [4]) aNil)))
def B_law_rows_times : Sx :=
  (sSeq (sAsg (xLst aNil) (oN 2))
  (sSeq (sFor (iR (aCons (xCb lenF (aCons (xBo 0) aNil)) aNil)) (gN 3) B_law_rows_times_b1)
  (sRetO 2)))
def F_law_rows_times : List D → Option D := runF 3 [false, false] B_law_rows_times

theorem ok_law_rows_times (T : Tx K mg) : FnOk P w K mg base CX0 1 T.f_law_rows_times T.fd_law_rows_times ["row", "other"] (SpF K true [false, false] F_law_rows_times) := by

  refine T.F_law_rows_times.ok sc_law_rows_times (fun vs H Q E h => ?_) (fun cdv A outer s H vs Q E hr h => ?_)
  · obtain ⟨S, pt, ds, d, _, _, ar, _⟩ := h
    rw [ar.len.1]; rfl
  · exact ⟨_, (pss_cons (ps_set (i := 2) sc_law_rows_times.nd rfl (.inl rfl) (pe_lst pa_nil))
  (pss_cons (ps_for PassesOwn.never rfl (pi_range1 (by rfl) T.z_range (pa_cons (pe_callB call_len (by rfl) T.z_len (by decide +kernel) (pa_cons (pv 0) pa_nil)) pa_nil)) (pg_name (i := 3) sc_law_rows_times.nd rfl (.inr rfl)) (pss_one (ps_expr (pe_bm PySem.F.plainAttrs_list PySem.F.slot_list_append PySem.F.type_list_append mt_append (pv 2) (pa_cons (pe_callB (cr_sum rfl) (by rfl) T.z_sum (by decide +kernel) (pa_cons (pe_lc (own := [("back", 4)]) (g := gName 4) (tt := tYes) (by rfl) sc_law_rows_times.nd (pi_range1 (by rfl) T.z_range (pa_cons (pe_op op_addA (pv 3) pe_int) pa_nil)) (blkOk_by (own := [("back", 4)]) (N := ["row", "other", "found", "at", "back"]) (sc := defScope s_law_rows_times) (by decide +kernel)) (fun _ _ _ _ _ => pg_name (i := 4) sc_law_rows_times.nd rfl (.inl rfl)) (fun _ _ _ _ _ => pts_nil) (fun _ _ _ _ _ => (pe_op op_mulA (pe_ix ix_seq (pv 0) (pv 4) (fun _ _ => rfl)) (pe_ix ix_seq (pv 1) (pe_op op_sub (pv 3) (pv 4)) (fun _ _ => rfl))))) pa_nil)) pa_nil)))))
  (pss_one (ps_ret (pv 2))))), SF.spF (b := B_law_rows_times) (n := 3) (N := ["row", "other", "found", "at", "back"]) (sf_seq (sf_own (nf_lst af_nil))
  (sf_seq (sf_for (if_rng1 (EF.bf (ef_cb cf_len (ab_cons (bf_var 0) ab_nil)))) gf_name (sf_app (ef_cb cf_sum (ab_cons (EF.bf (NF.ef (nf_lc (if_rng1 (EF.bf (ef_op of_addA (bf_var 3) (EF.bf ef_int)))) gf_name tf_yes (ef_op of_mulA (EF.bf (ef_op of_ix (bf_var 0) (bf_var 4))) (EF.bf (ef_op of_ix (bf_var 1) (EF.bf (ef_op of_sub (bf_var 3) (bf_var 4))))))))) ab_nil))))
  (sf_retO 2))) rfl h (fun _ => (nn_seq (nn_seq nn_retO)))⟩
def B_law_right : Sx :=
  (sSeq (sPar3 1 2 3 (aCons (xCallP 0 F_law_weights (aCons (xC (.int 1)) (aCons (xC (.int 2)) aNil))) (aCons (xCallP 0 F_law_weights (aCons (xC (.int 1)) (aCons (xC (.int 2)) aNil))) (aCons (xOp addF (xC (.int 1)) (xCallP 0 F_law_draw (aCons (xC (.int 30)) aNil))) aNil))))
  (sSeq (sPar 4 5 (aCons (xTup (aCons (xC (.str "squares")) (aCons (xVar 1) aNil))) (aCons (xTup (aCons (xC (.str "squares")) (aCons (xVar 2) aNil))) aNil)))
  (sSeq (sPar 6 7 (aCons (xTup (aCons (xC (.str "product")) (aCons (xCb F_law_powers (aCons (xVar 1) aNil)) aNil))) (aCons (xCb F_law_row (aCons (xVar 1) (aCons (xVar 3) aNil))) aNil)))
  (sSeq (sIf (xOr (xT (xOp (eqF true) (xCb reprF (aCons (xLst (aCons (xCb F_form_product (aCons (xVar 4) aNil)) (aCons (xCallK F_form_product (fun us ws => match us, ws with | [], [ws0] => [ws0] | _, _ => []) aNil (aCons (xVar 4) aNil)) aNil))) aNil)) (xCb reprF (aCons (xLst (aCons (xVar 6) (aCons (xVar 6) aNil))) aNil)))) (xT (xOp (eqF true) (xCb F_product_row (aCons (xVar 6) (aCons (xVar 3) aNil))) (xBo 7)))) (sRet (xC (.bool false))) sNext)
  (sSeq (sAsg (xTup (aCons (xC (.str "squares")) (aCons (xCb tupleF (aCons (xCb sortXF (aCons (xOp addF (xBo 1) (xBo 2)) aNil)) aNil)) aNil))) (gN 8))
  (sSeq (sIf (xT (xOp (eqF true) (xCb reprF (aCons (xLst (aCons (xCb F_joined (aCons (xVar 4) (aCons (xVar 5) aNil))) (aCons (xCallK F_joined (fun us ws => match us, ws with | [], [ws0, ws1] => [ws1, ws0] | _, _ => []) aNil (aCons (xVar 4) (aCons (xVar 5) aNil))) aNil))) aNil)) (xCb reprF (aCons (xLst (aCons (xVar 8) (aCons (xVar 8) aNil))) aNil)))) (sRet (xC (.bool false))) sNext)
  (sSeq (sIf (xT (xOp (eqF true) (xCb F_ways_row (aCons (xVar 8) (aCons (xVar 3) aNil))) (xCb F_law_rows_times (aCons (xVar 7) (aCons (xCb F_law_row (aCons (xVar 2) (aCons (xVar 3) aNil))) aNil))))) (sRet (xC (.bool false))) sNext)
  (sSeq (sAsg (xTup (aCons (xC (.str "product")) (aCons (xCb F_law_powers (aCons (xOp addF (xBo 1) (xBo 2)) aNil)) aNil))) (gN 9))
  (sSeq (sIf (xT (xOp (eqF true) (xCb F_form_product (aCons (xTup (aCons (xC (.str "squares")) (aCons (xOp addF (xOp mul1F (xTup (aCons (xC (.int 1)) aNil)) (xC (.int 5))) (xOp mul1F (xTup (aCons (xC (.int 2)) aNil)) (xC (.int 2)))) aNil))) aNil)) (xTup (aCons (xC (.str "product")) (aCons (xTup (aCons (xTup (aCons (xC (.int 1)) (aCons (xUn negF (xC (.int 10))) aNil))) (aCons (xTup (aCons (xC (.int 2)) (aCons (xC (.int 21)) aNil))) (aCons (xTup (aCons (xC (.int 8)) (aCons (xUn negF (xC (.int 4))) aNil))) aNil)))) aNil))))) (sRet (xC (.bool false))) sNext)
  (sRet (xAndV (xChain (eqF false) (eqF false) (xCb F_form_product (aCons (xVar 8) aNil)) (xBo 9) (xCb F_product_times (aCons (xVar 6) (aCons (xCb F_form_product (aCons (xVar 5) aNil)) aNil)))) (xOp (eqF false) (xCb F_product_row (aCons (xVar 9) (aCons (xVar 3) aNil))) (xCb F_law_row (aCons (xOp addF (xBo 1) (xBo 2)) (aCons (xVar 3) aNil)))))))))))))))
def F_law_right : Pot → List D → Option (D × Pot) := runP 9 [] B_law_right

theorem ok_law_right (T : Tx K mg) : GOk P w K mg base 7 T.f_law_right T.fd_law_right ["pot"] (SpP K false [] F_law_right) := by
  have G_law_draw := ok_law_draw (P := P) (w := w) (base := base) T
  have G_law_powers := ok_law_powers (P := P) (w := w) (base := base) T
  have G_law_row := ok_law_row (P := P) (w := w) (base := base) T
  have G_law_rows_times := ok_law_rows_times (P := P) (w := w) (base := base) T
  have G_law_weights := ok_law_weights (P := P) (w := w) (base := base) T
  have G_form_product := ok_form_product (P := P) (w := w) (base := base) T
  have G_joined := ok_joined (P := P) (w := w) (base := base) T
  have G_product_row := ok_product_row (P := P) (w := w) (base := base) T
  have G_product_times := ok_product_times (P := P) (w := w) (base := base) T
  have G_ways_row := ok_ways_row (P := P) (w := w) (base := base) T
  refine gok T.F_law_right sc_law_right (fun vs H Q E h => ?_) (fun cdv A outer s H vs Q hg hr h => ?_)
  · obtain ⟨S, a, ws, π, ds, d, π', rfl, _, _, _, ar, _⟩ := h
    show ws.length + 1 = _
    rw [ar.len.1]; rfl
  · exact ⟨_, (pss_cons (ps_par3 (i := 1) (j := 2) (l := 3) rfl sc_law_right.nd rfl rfl rfl (by decide) (by decide) (by decide) rfl rfl rfl (pa_cons (pe_call G_law_weights (hr.mono (by decide)) (by rfl) T.m_law_weights T.F_law_weights.kp T.b_law_weights .nil pass0 (pa_cons (pv 0) (pa_cons pe_int (pa_cons pe_int pa_nil)))) (pa_cons (pe_call G_law_weights (hr.mono (by decide)) (by rfl) T.m_law_weights T.F_law_weights.kp T.b_law_weights .nil pass0 (pa_cons (pv 0) (pa_cons pe_int (pa_cons pe_int pa_nil)))) (pa_cons (pe_op op_addA pe_int (pe_call G_law_draw (hr.mono (by decide)) (by rfl) T.m_law_draw T.F_law_draw.kp T.b_law_draw .nil pass0 (pa_cons (pv 0) (pa_cons pe_int pa_nil)))) pa_nil))) (by rfl))
  (pss_cons (ps_par (i := 4) (j := 5) rfl sc_law_right.nd rfl rfl (by decide) rfl rfl (pa_cons (pe_tupF (pa_cons pe_str (pa_cons (pv 1) pa_nil))) (pa_cons (pe_tupF (pa_cons pe_str (pa_cons (pv 2) pa_nil))) pa_nil)) (by rfl))
  (pss_cons (ps_par (i := 6) (j := 7) rfl sc_law_right.nd rfl rfl (by decide) rfl rfl (pa_cons (pe_tupF (pa_cons pe_str (pa_cons (pe_call G_law_powers (hr.mono (by decide)) (by rfl) T.m_law_powers T.F_law_powers.kp T.b_law_powers .nil pass0 (pa_cons (pv 1) pa_nil)) pa_nil))) (pa_cons (pe_call G_law_row (hr.mono (by decide)) (by rfl) T.m_law_row T.F_law_row.kp T.b_law_row .nil pass0 (pa_cons (pv 1) (pa_cons (pv 3) pa_nil))) pa_nil)) (by rfl))
  (pss_cons (ps_if (PW.pt (pw_or (pt_cmpR (op_neA hr.units) (pe_callB (call_repA (by exact hg) (un66 hr)) (by rfl) T.z_repr (by decide +kernel) (pa_cons (pe_lst (pa_cons (pe_call G_form_product (hr.mono (by decide)) (by rfl) T.m_form_product T.F_form_product.kp T.b_form_product .nil pass0 (pa_cons (pv 4) pa_nil)) (pa_cons (pe_kcall G_form_product (hr.mono (by decide)) (by rfl) T.m_form_product T.F_form_product.kp T.kb_form_product_0 pass0 (pk_cons (pv 4) pk_nil)) pa_nil))) pa_nil)) (pe_callB (call_repA (by exact hg) (un66 hr)) (by rfl) T.z_repr (by decide +kernel) (pa_cons (pe_lst (pa_cons (pv 6) (pa_cons (pv 6) pa_nil))) pa_nil)) (nomark _)) (pw_or1 (pt_cmpR (op_neA hr.units) (pe_call G_product_row (hr.mono (by decide)) (by rfl) T.m_product_row T.F_product_row.kp T.b_product_row .nil pass0 (pa_cons (pv 6) (pa_cons (pv 3) pa_nil))) (pv 7) (nomark _))))) (pss_one (ps_ret pe_bl)) pss_nil)
  (pss_cons (ps_set (i := 8) sc_law_right.nd rfl (.inl rfl) (pe_tupF (pa_cons pe_str (pa_cons (pe_callTy cr_tupF (by rfl) T.z_tuple (by decide +kernel) (pa_cons (pe_callB cr_sortX (by rfl) T.z_sorted (by decide +kernel) (pa_cons (pe_op op_addA (pv 1) (pv 2)) pa_nil)) pa_nil)) pa_nil))))
  (pss_cons (ps_if (pt_cmpR (op_neA hr.units) (pe_callB (call_repA (by exact hg) (un66 hr)) (by rfl) T.z_repr (by decide +kernel) (pa_cons (pe_lst (pa_cons (pe_call G_joined (hr.mono (by decide)) (by rfl) T.m_joined T.F_joined.kp T.b_joined .nil pass0 (pa_cons (pv 4) (pa_cons (pv 5) pa_nil))) (pa_cons (pe_kcall G_joined (hr.mono (by decide)) (by rfl) T.m_joined T.F_joined.kp T.kb_joined_1 pass0 (pk_cons (pv 4) (pk_cons (pv 5) pk_nil))) pa_nil))) pa_nil)) (pe_callB (call_repA (by exact hg) (un66 hr)) (by rfl) T.z_repr (by decide +kernel) (pa_cons (pe_lst (pa_cons (pv 8) (pa_cons (pv 8) pa_nil))) pa_nil)) (nomark _)) (pss_one (ps_ret pe_bl)) pss_nil)
  (pss_cons (ps_if (pt_cmpR (op_neA hr.units) (pe_call G_ways_row (hr.mono (by decide)) (by rfl) T.m_ways_row T.F_ways_row.kp T.b_ways_row .nil pass0 (pa_cons (pv 8) (pa_cons (pv 3) pa_nil))) (pe_call G_law_rows_times (hr.mono (by decide)) (by rfl) T.m_law_rows_times T.F_law_rows_times.kp T.b_law_rows_times .nil pass0 (pa_cons (pv 7) (pa_cons (pe_call G_law_row (hr.mono (by decide)) (by rfl) T.m_law_row T.F_law_row.kp T.b_law_row .nil pass0 (pa_cons (pv 2) (pa_cons (pv 3) pa_nil))) pa_nil))) (nomark _)) (pss_one (ps_ret pe_bl)) pss_nil)
  (pss_cons (ps_set (i := 9) sc_law_right.nd rfl (.inl rfl) (pe_tupF (pa_cons pe_str (pa_cons (pe_call G_law_powers (hr.mono (by decide)) (by rfl) T.m_law_powers T.F_law_powers.kp T.b_law_powers .nil pass0 (pa_cons (pe_op op_addA (pv 1) (pv 2)) pa_nil)) pa_nil))))
  (pss_cons (ps_if (pt_cmpR (op_neA hr.units) (pe_call G_form_product (hr.mono (by decide)) (by rfl) T.m_form_product T.F_form_product.kp T.b_form_product .nil pass0 (pa_cons (pe_tupF (pa_cons pe_str (pa_cons (pe_op op_addA (pe_op op_mul1 (pe_tupF (pa_cons pe_int pa_nil)) pe_int) (pe_op op_mul1 (pe_tupF (pa_cons pe_int pa_nil)) pe_int)) pa_nil))) pa_nil)) (pe_tupF (pa_cons pe_str (pa_cons (pe_tupF (pa_cons (pe_tupF (pa_cons pe_int (pa_cons (pe_un un_neg pe_int) pa_nil))) (pa_cons (pe_tupF (pa_cons pe_int (pa_cons pe_int pa_nil))) (pa_cons (pe_tupF (pa_cons pe_int (pa_cons (pe_un un_neg pe_int) pa_nil))) pa_nil)))) pa_nil))) (nomark _)) (pss_one (ps_ret pe_bl)) pss_nil)
  (pss_one (ps_ret (pe_and (pe_chain (op_eqA hr.units) (op_eqA hr.units) (pe_call G_form_product (hr.mono (by decide)) (by rfl) T.m_form_product T.F_form_product.kp T.b_form_product .nil pass0 (pa_cons (pv 8) pa_nil)) (pv 9) (pe_call G_product_times (hr.mono (by decide)) (by rfl) T.m_product_times T.F_product_times.kp T.b_product_times .nil pass0 (pa_cons (pv 6) (pa_cons (pe_call G_form_product (hr.mono (by decide)) (by rfl) T.m_form_product T.F_form_product.kp T.b_form_product .nil pass0 (pa_cons (pv 5) pa_nil)) pa_nil)))) (pe_one (pe_cmpR (op_eqA hr.units) (pe_call G_product_row (hr.mono (by decide)) (by rfl) T.m_product_row T.F_product_row.kp T.b_product_row .nil pass0 (pa_cons (pv 9) (pa_cons (pv 3) pa_nil))) (pe_call G_law_row (hr.mono (by decide)) (by rfl) T.m_law_row T.F_law_row.kp T.b_law_row .nil pass0 (pa_cons (pe_op op_addA (pv 1) (pv 2)) (pa_cons (pv 3) pa_nil))) (nomark _))))))))))))))), SF.spP (b := B_law_right) (n := 9) (N := ["pot", "one", "other", "many", "near", "far", "due", "row", "both", "led"]) (sf_seq (sf_par3 (af_cons (ef_callP (ga_strict ef_int (ga_strict ef_int ga_nil))) (af_cons (ef_callP (ga_strict ef_int (ga_strict ef_int ga_nil))) (af_cons (ef_op of_addA (EF.bf ef_int) (EF.bf (ef_callP (ga_strict ef_int ga_nil)))) af_nil))))
  (sf_seq (sf_par (af_cons (ef_tup (af_cons ef_str (af_cons (ef_var 1) af_nil))) (af_cons (ef_tup (af_cons ef_str (af_cons (ef_var 2) af_nil))) af_nil)))
  (sf_seq (sf_par (af_cons (ef_tup (af_cons ef_str (af_cons (ef_call (ga_strict (ef_var 1) ga_nil)) af_nil))) (af_cons (ef_call (ga_strict (ef_var 1) (ga_strict (ef_var 3) ga_nil))) af_nil)))
  (sf_seq (sf_if (tf_or (tf_test (EF.bf (ef_op of_ne (EF.bf (ef_cb cf_repr (ab_cons (EF.bf (NF.ef (nf_lst (af_cons (ef_call (ga_strict (ef_var 4) ga_nil)) (af_cons (ef_callK (g := (fun us ws => match us, ws with | [], [ws0] => [ws0] | _, _ => [])) ga_nil (ga_strict (ef_var 4) ga_nil) (by intro _ _ _ vs ws ds es h1 h2; obtain ⟨rfl, rfl⟩ := argA0 h1; obtain ⟨w0, e0, rfl, rfl, b0⟩ := argA1 h2; exact ⟨b0, trivial⟩)) af_nil))))) ab_nil))) (EF.bf (ef_cb cf_repr (ab_cons (EF.bf (NF.ef (nf_lst (af_cons (ef_var 6) (af_cons (ef_var 6) af_nil))))) ab_nil)))))) (tf_test (EF.bf (ef_op of_ne (EF.bf (NF.ef (nf_call (ga_strict (ef_var 6) (ga_strict (ef_var 3) ga_nil))))) (bf_var 7))))) (sf_ret ef_bool) sf_next)
  (sf_seq (sf_asg (ef_tup (af_cons ef_str (af_cons (ef_cb cf_tuple (ab_cons (EF.bf (ef_cb cn_sortX.of (ab_cons (EF.bf (ef_op of_addA (bf_var 1) (bf_var 2))) ab_nil))) ab_nil)) af_nil))) gf_name)
  (sf_seq (sf_if (tf_test (EF.bf (ef_op of_ne (EF.bf (ef_cb cf_repr (ab_cons (EF.bf (NF.ef (nf_lst (af_cons (ef_call (ga_strict (ef_var 4) (ga_strict (ef_var 5) ga_nil))) (af_cons (ef_callK (g := (fun us ws => match us, ws with | [], [ws0, ws1] => [ws1, ws0] | _, _ => [])) ga_nil (ga_strict (ef_var 4) (ga_strict (ef_var 5) ga_nil)) (by intro _ _ _ vs ws ds es h1 h2; obtain ⟨rfl, rfl⟩ := argA0 h1; obtain ⟨w0, w1, e0, e1, rfl, rfl, b0, b1⟩ := argA2 h2; exact ⟨b1, b0, trivial⟩)) af_nil))))) ab_nil))) (EF.bf (ef_cb cf_repr (ab_cons (EF.bf (NF.ef (nf_lst (af_cons (ef_var 8) (af_cons (ef_var 8) af_nil))))) ab_nil)))))) (sf_ret ef_bool) sf_next)
  (sf_seq (sf_if (tf_test (EF.bf (ef_op of_ne (EF.bf (NF.ef (nf_call (ga_strict (ef_var 8) (ga_strict (ef_var 3) ga_nil))))) (EF.bf (NF.ef (nf_call (ga_strict (ef_var 7) (ga_strict (ef_call (ga_strict (ef_var 2) (ga_strict (ef_var 3) ga_nil))) ga_nil)))))))) (sf_ret ef_bool) sf_next)
  (sf_seq (sf_asg (ef_tup (af_cons ef_str (af_cons (ef_call (ga_strict (ef_op of_addA (bf_var 1) (bf_var 2)) ga_nil)) af_nil))) gf_name)
  (sf_seq (sf_if (tf_test (EF.bf (ef_op of_ne (EF.bf (ef_call (ga_strict (ef_tup (af_cons ef_str (af_cons (ef_op of_addA (EF.bf (ef_op of_mul1 (EF.bf (ef_tup (af_cons ef_int af_nil))) (EF.bf ef_int))) (EF.bf (ef_op of_mul1 (EF.bf (ef_tup (af_cons ef_int af_nil))) (EF.bf ef_int)))) af_nil))) ga_nil))) (EF.bf (ef_tup (af_cons ef_str (af_cons (ef_tup (af_cons (ef_tup (af_cons ef_int (af_cons (ef_neg (EF.bf ef_int)) af_nil))) (af_cons (ef_tup (af_cons ef_int (af_cons ef_int af_nil))) (af_cons (ef_tup (af_cons ef_int (af_cons (ef_neg (EF.bf ef_int)) af_nil))) af_nil)))) af_nil))))))) (sf_ret ef_bool) sf_next)
  (sf_ret (ef_andV (EF.bf (ef_chain of_eq of_eq (EF.bf (ef_call (ga_strict (ef_var 8) ga_nil))) (bf_var 9) (EF.bf (ef_call (ga_strict (ef_var 6) (ga_strict (ef_call (ga_strict (ef_var 5) ga_nil)) ga_nil)))))) (ef_op of_eq (EF.bf (NF.ef (nf_call (ga_strict (ef_var 9) (ga_strict (ef_var 3) ga_nil))))) (EF.bf (ef_call (ga_strict (ef_op of_addA (bf_var 1) (bf_var 2)) (ga_strict (ef_var 3) ga_nil)))))))))))))))) rfl h (fun z => nomatch z)⟩

end
end K38

noncomputable section
namespace K38
open PySem PySem.Spec PyProof.Rows L2 EP FL
theorem rgOk_nat {N : Nat} (h : N < 100000) : rgOk (N : Int) = true := rgOk_mk (by omega) (by omega)
theorem rg17 : rgOk 1 = true ∧ True := ⟨rgOk_mk (by decide) (by decide), trivial⟩
theorem ixN_of {n : Nat} {i : Int} (h0 : 0 ≤ i) (h1 : i < n) : ixN n i = some i.toNat := by
  unfold ixN
  rw [if_pos h0, if_pos h1]
theorem n3_self {d N : Nat} (hd : 0 < d) : n3 (d : Int) (N : Int) (d : Int) = if d < N then (N - d - 1) / d + 1 else 0 := by
  unfold n3 Builtin.Range.rangeSize
  rw [if_pos (by omega)]
  by_cases c : d < N
  · rw [if_pos (by omega), if_pos c]
    have e : (N : Int) - (d : Int) - 1 = ((N - d - 1 : Nat) : Int) := by omega
    rw [e]
    have : ((N - d - 1 : Nat) : Int) / (d : Int) = (((N - d - 1) / d : Nat) : Int) := rfl
    rw [this]
    generalize (N - d - 1) / d = q
    omega
  · rw [if_neg (by omega), if_neg c]; rfl
theorem sums_b1 {N d : Nat} (hd : 0 < d) (hd2 : d ≤ 30) (e t : Nat → Int) (he : (e d).natAbs < 1000) (k : Nat) (hk : d + k * d < N) (hN : N ≤ 30) (π : Pot) :
    B_sums_of_b1 [.arg (rowI N e), .dat (.int (N : Int)), .own (rowI N t), .dat (.int (d : Int)), .dat (.int ((d : Int) + (k : Int) * (d : Int)))] π =
      some ([.arg (rowI N e), .dat (.int (N : Int)), .own (rowI N fun i => if i = d + k * d then t i - (d : Int) * e d else t i), .dat (.int (d : Int)), .dat (.int ((d : Int) + (k : Int) * (d : Int)))], π, .nx) := by
  have ek : (d : Int) + (k : Int) * (d : Int) = ((d + k * d : Nat) : Int) := by push_cast; rfl
  have pk : (0 : Int) ≤ (d : Int) + (k : Int) * (d : Int) := by rw [ek]; omega
  have tk : ((d : Int) + (k : Int) * (d : Int)).toNat = d + k * d := by rw [ek]; omega
  have dk : d ≤ d + k * d := Nat.le_add_right _ _
  have a1 : atI (rowI N t) ((d : Int) + (k : Int) * (d : Int)) = some (.int (t (d + k * d))) := by rw [rowI_at pk (by rw [tk]; exact hk), tk]
  have a2 : atI (rowI N e) (d : Int) = some (.int (e d)) := by rw [rowI_at (by omega) (by omega)]; rfl
  have x1 : ixN N ((d : Int) + (k : Int) * (d : Int)) = some (d + k * d) := by rw [ixN_of pk (by rw [ek]; omega), tk]
  have mk : mulOk (d : Int) (e d) = true := mulOk_of (a := 10) (b := 10) (by omega) (by omega)
  have fin : (rowI N t).set (d + k * d) (.int (t (d + k * d) - (d : Int) * e d)) = rowI N fun i => if i = d + k * d then t i - (d : Int) * e d else t i := by
    rw [rowI_set]
    exact rowI_congr fun i _ => by
      by_cases c : i = d + k * d
      · rw [if_pos c, if_pos c, c]
      · rw [if_neg c, if_neg c]
  simp [B_sums_of_b1, a1, a2, x1, mk, mulF, fin]
theorem sums_in {N d : Nat} (hd : 0 < d) (hd2 : d < N) (e t : Nat → Int) (he : (e d).natAbs < 1000) (hN : N ≤ 30) (c4 : FL.Slot) (π : Pot) :
    ∃ c4', forGo (gN 4) B_sums_of_b1 (rg3 (d : Int) (N : Int) (d : Int)) [.arg (rowI N e), .dat (.int (N : Int)), .own (rowI N t), .dat (.int (d : Int)), c4] π =
      some ([.arg (rowI N e), .dat (.int (N : Int)), .own (rowI N fun i => t i - PSr.dv d i * e d), .dat (.int (d : Int)), c4'], π, .nx) := by
  have n3e := n3_self (N := N) hd
  rw [if_pos hd2] at n3e
  obtain ⟨ρ', π', E, c4', hρ, hπ⟩ := forGo_inv (tg := gN 4) (b := B_sums_of_b1) (fun k ρ π' => ∃ c4 : FL.Slot, ρ = [.arg (rowI N e), .dat (.int (N : Int)), .own (rowI N fun i => if d ≤ i ∧ i % d = 0 ∧ i < d + k * d then t i - (d : Int) * e d else t i), .dat (.int (d : Int)), c4] ∧ π' = π) (rg3 (d : Int) (N : Int) (d : Int)) (by
    rintro k x ρ π' hx ⟨c4, rfl, rfl⟩
    obtain ⟨lk, rfl⟩ := rg3_get hx
    rw [n3e] at lk
    have hk : d + k * d < N := by
      have h1 : k ≤ (N - d - 1) / d := by omega
      have h2 : k * d ≤ N - d - 1 := (Nat.le_div_iff_mul_le hd).mp h1
      omega
    refine ⟨_, _, _, rfl, .inl (sums_b1 hd (by omega) e _ he k hk hN π'), .dat (.int ((d : Int) + (k : Int) * (d : Int))), ?_, rfl⟩
    congr 3
    congr 1
    refine rowI_congr fun i hi => ?_
    have e1 : d + (k + 1) * d = d + k * d + d := by rw [Nat.succ_mul]; omega
    by_cases c : i = d + k * d
    · rw [if_pos c, if_neg (show ¬ (d ≤ i ∧ i % d = 0 ∧ i < d + k * d) by omega), if_pos ⟨by omega, by rw [c, Nat.add_mul_mod_self_right, Nat.mod_self], by omega⟩]
    · rw [if_neg c]
      by_cases c2 : d ≤ i ∧ i % d = 0 ∧ i < d + k * d
      · rw [if_pos c2, if_pos ⟨c2.1, c2.2.1, by omega⟩]
      · rw [if_neg c2, if_neg]
        rintro ⟨z1, z2, z3⟩
        refine c2 ⟨z1, z2, ?_⟩
        obtain ⟨q, hq⟩ := Nat.dvd_of_mod_eq_zero z2
        rw [e1] at z3
        have : q < k + 2 := by
          rw [hq] at z3
          have : d * q < d * (k + 2) := by rw [Nat.mul_add]; have := Nat.mul_comm k d; omega
          exact Nat.lt_of_mul_lt_mul_left this
        have nq : q ≠ k + 1 := fun z => c (by rw [hq, z, Nat.mul_add, Nat.mul_comm d k]; omega)
        rw [hq]
        have : d * q ≤ d * k := Nat.mul_le_mul_left d (by omega)
        rw [Nat.mul_comm k d]; omega) (ρ := [.arg (rowI N e), .dat (.int (N : Int)), .own (rowI N t), .dat (.int (d : Int)), c4]) (π := π) ⟨c4, by
      congr 3
      congr 1
      exact rowI_congr fun i hi => by rw [if_neg (by omega)], rfl⟩
  have hrow : rowI N (fun i => if d ≤ i ∧ i % d = 0 ∧ i < d + ((N - d - 1) / d + 1) * d then t i - (d : Int) * e d else t i) = rowI N (fun i => t i - PSr.dv d i * e d) := by
    refine rowI_congr fun i hi => ?_
    have far : N ≤ d + ((N - d - 1) / d + 1) * d := by
      have := Nat.div_add_mod (N - d - 1) d
      have := Nat.mod_lt (N - d - 1) hd
      rw [Nat.succ_mul, Nat.mul_comm]; omega
    unfold PSr.dv
    by_cases c : i = 0
    · rw [if_neg (by omega), if_pos c]; simp
    · rw [if_neg c]
      by_cases c2 : i % d = 0
      · have : d ≤ i := Nat.le_of_dvd (by omega) (Nat.dvd_of_mod_eq_zero c2)
        rw [if_pos ⟨this, c2, by omega⟩, if_pos c2]
      · rw [if_neg fun z => c2 z.2.1, if_neg c2]; simp
  subst hρ; subst hπ
  rw [rg3_length, n3e, hrow] at E
  exact ⟨c4', E⟩
def sgm (e : Nat → Int) (M k : Nat) : Int := - PSr.sm M fun j => PSr.dv (j + 1) k * e (j + 1)
theorem sums_b2 {N d : Nat} (hd : 0 < d) (hd2 : d < N) (e t : Nat → Int) (he : (e d).natAbs < 1000) (hN : N ≤ 30) (c4 : FL.Slot) (π : Pot) :
    ∃ c4', B_sums_of_b2 [.arg (rowI N e), .dat (.int (N : Int)), .own (rowI N t), .dat (.int (d : Int)), c4] π =
      some ([.arg (rowI N e), .dat (.int (N : Int)), .own (rowI N fun i => t i - PSr.dv d i * e d), .dat (.int (d : Int)), c4'], π, .nx) := by
  have a2 : atI (rowI N e) (d : Int) = some (.int (e d)) := by rw [rowI_at (by omega) (by omega)]; rfl
  have r3 : r3Ok (d : Int) (N : Int) (d : Int) = true := cdec_of ⟨⟨by omega, by omega⟩, ⟨by omega, by omega⟩, by omega, by omega, by omega⟩
  by_cases z : e d = 0
  · refine ⟨c4, ?_⟩
    have hrow : rowI N (fun i => t i - PSr.dv d i * e d) = rowI N t := rowI_congr fun i _ => by rw [z]; simp
    rw [hrow]
    simp [eqF_int, B_sums_of_b2, a2, z]
  · obtain ⟨c4', E⟩ := sums_in hd hd2 e t he hN c4 π
    refine ⟨c4', ?_⟩
    simp [eqF_int, B_sums_of_b2, a2, z, r3, E, -forGo]
theorem rep0 {N : Nat} (h : N ≤ 100000) : repF (.list [.int 0]) (.int (N : Int)) = some (.list (rowI N fun _ => 0)) := by
  unfold repF
  have c : (N : Int) ≤ 100000 ∧ -100000 ≤ (N : Int) ∧ [(PyData.int 0)].length * (N : Int).toNat ≤ 100000 := ⟨by omega, by omega, by simp; omega⟩
  simp only [if_pos c]
  have : (List.replicate (N : Int).toNat [(PyData.int 0)]).flatten = rowI N fun _ => 0 := by
    rw [← rowI_replicate]
    simp
  rw [this]
theorem sums_eq {M : Nat} (e : Nat → Int) (he : ∀ i, i ≤ M → (e i).natAbs < 1000) (hM : M < 30) : F_sums_of [.list (rowI (M + 1) e), .int ((M + 1 : Nat) : Int)] = some (.list (rowI M fun i => sgm e M (i + 1))) := by
  obtain ⟨ρ', π', E, c3, c4, hρ, hπ⟩ := forGo_inv (tg := gN 3) (b := B_sums_of_b2) (fun k ρ π' => ∃ c3 c4 : FL.Slot, ρ = [.arg (rowI (M + 1) e), .dat (.int ((M + 1 : Nat) : Int)), .own (rowI (M + 1) fun i => sgm e k i), c3, c4] ∧ π' = []) (rg 1 M) (by
    rintro k x ρ π' hx ⟨c3, c4, rfl, rfl⟩
    obtain ⟨lk, rfl⟩ := rg_get hx
    obtain ⟨c4', b⟩ := sums_b2 (N := M + 1) (d := k + 1) (by omega) (by omega) e (fun i => sgm e k i) (he _ (by omega)) (by omega) c4 []
    have ek : (1 : Int) + (k : Int) = ((k + 1 : Nat) : Int) := by omega
    have hrow : rowI (M + 1) (fun i => sgm e k i - PSr.dv (k + 1) i * e (k + 1)) = rowI (M + 1) (fun i => sgm e (k + 1) i) := rowI_congr fun i _ => by
      unfold sgm; rw [PSr.sm_succ]; omega
    rw [hrow] at b
    exact ⟨_, _, _, rfl, .inl (by rw [ek]; exact b), _, c4', rfl, rfl⟩) (ρ := [.arg (rowI (M + 1) e), .dat (.int ((M + 1 : Nat) : Int)), .own (rowI (M + 1) fun _ => 0), .un, .un]) (π := []) ⟨.un, .un, by
      have : rowI (M + 1) (fun _ => (0 : Int)) = rowI (M + 1) (fun i => sgm e 0 i) := rowI_congr fun i _ => by unfold sgm; rfl
      rw [this], rfl⟩
  subst hρ; subst hπ
  rw [rg_length] at E
  have r0 := rep0 (N := M + 1) (by omega)
  have k1 := rg17.1
  have k2 := rgOk_nat (N := M + 1) (by omega)
  have cc : cutL (.list (rowI (M + 1) fun i => sgm e M i)) (some 1) none = some (.list (rowI M fun i => sgm e M (i + 1))) := by
    have := cut_drop (rowI (M + 1) fun i => sgm e M i) 1 (by simp)
    rw [rowI_drop] at this
    exact congrArg (fun z => some (PyData.list z)) this
  have nt : (((M + 1 : Nat) : Int) - 1).toNat = M := by omega
  generalize hn : ((M + 1 : Nat) : Int) = n at *
  simp [F_sums_of, B_sums_of, r0, k1, k2, nt, E, cc, -forGo, -cutL]
theorem rowp_b1 {M k : Nat} (k1 : 1 ≤ k) (kM : k ≤ M) (hM : M ≤ 30) (s A : Nat → Int) (hs : ∀ i, i < M → (s i).natAbs < 2 ^ 100) (hA : ∀ i, i < k → (A i).natAbs < 2 ^ 1000)
    (hr : (k : Int) * A k = PSr.sm k fun i => s i * A (k - 1 - i)) (p m : FL.Slot) (c5 c6 c7 : FL.Slot) (o6 : c6.isOwn = false) (o7 : c7.isOwn = false) (π : Pot) :
    ∃ c5', B_row_by_powers_b1 [p, m, .dat (.list (rowI M s)), .own (rowI k A), .dat (.int (k : Int)), c5, c6, c7] π = some ([p, m, .dat (.list (rowI M s)), .own (rowI (k + 1) A), .dat (.int (k : Int)), c5', c6, c7], π, .nx) := by
  have d1 : ∀ x : Int, divOk x (k : Int) = true := fun x => divOk_of (by omega) (by omega)
  have e : lcGo (gT 2 (gsC (gN 6) (gsC (gN 7) gsN))) xYes (xOp mulF (xBo 6) (xBo 7)) [p, m, .dat (.list (rowI M s)), .own (rowI k A), .dat (.int (k : Int)), c5, .un, .un] (zipD (rowI M s) (rowI k fun i => A (k - 1 - i))) π = some (rowI (min M k) fun i => s i * A (k - 1 - i), π) :=
    lcGo_zip M k s (fun i => A (k - 1 - i)) (fun i => s i * A (k - 1 - i)) fun i a b => by
      have mk : mulOk (s i) (A (k - 1 - i)) = true := mulOk_of (a := 100) (b := 1000) (hs i a) (hA _ (by omega))
      exact ⟨[p, m, .dat (.list (rowI M s)), .own (rowI k A), .dat (.int (k : Int)), c5, .dat (.int (s i)), .dat (.int (A (k - 1 - i)))], by simp, rfl, by simp [mulF, mk]⟩
  rw [show min M k = k by omega] at e
  have rv : revL (.list (rowI k A)) = some (.list (rowI k fun i => A (k - 1 - i))) := by simp only [revL, rowI_reverse]
  have su := sumF_rowI k fun i => s i * A (k - 1 - i)
  rw [← hr] at su
  have zl : (zipD (rowI M s) (rowI k fun i => A (k - 1 - i))).length ≤ 100000 := by rw [zipD_length, rowI_length, rowI_length]; omega
  have pk : 0 < k := by omega
  have dv : (k : Int) * A k / (k : Int) = A k := Int.mul_ediv_cancel_left _ (by omega)
  have sn := rowI_succ k A
  have kl : k < 100000 := by omega
  refine ⟨.dat (.int ((k : Int) * A k)), ?_⟩
  simp [B_row_by_powers_b1, rv, zl, e, su, d1, pk, dv, kl, sn, o6, o7, -lcGo, -revL, -zipD, -sumF]
theorem sm_bound (c : Nat) (f : Nat → Int) : ∀ n, (∀ i, i < n → (f i).natAbs ≤ c) → (PSr.sm n f).natAbs ≤ n * c
  | 0, _ => by simp
  | n + 1, h => by
    have := sm_bound c f n fun i l => h i (by omega)
    have := h n (by omega)
    rw [PSr.sm_succ, Nat.succ_mul]; omega
theorem dv_le (d k : Nat) : 0 ≤ PSr.dv d k ∧ PSr.dv d k ≤ d := by
  unfold PSr.dv
  split
  · omega
  · split <;> omega
theorem sgm_bound {e : Nat → Int} {M : Nat} (he : ∀ i, i ≤ M → (e i).natAbs < 1000) (hM : M < 30) (k : Nat) : (sgm e M k).natAbs < 2 ^ 100 := by
  have h := sm_bound 30000 (fun j => PSr.dv (j + 1) k * e (j + 1)) M fun j l => by
    have a := dv_le (j + 1) k
    have b := he (j + 1) (by omega)
    rw [Int.natAbs_mul]
    calc (PSr.dv (j + 1) k).natAbs * (e (j + 1)).natAbs ≤ 30 * 1000 := Nat.mul_le_mul (by omega) (by omega)
      _ = 30000 := rfl
  have : M * 30000 ≤ 30 * 30000 := Nat.mul_le_mul (by omega) (Nat.le_refl _)
  unfold sgm
  rw [Int.natAbs_neg]
  omega
theorem rowp_eq {M : Nat} (e A : Nat → Int) (he : ∀ i, i ≤ M → (e i).natAbs < 1000) (hM : M < 30) (A0 : A 0 = 1) (hA : ∀ i, i ≤ M → (A i).natAbs < 2 ^ 1000)
    (hr : ∀ k, 1 ≤ k → k ≤ M → (k : Int) * A k = PSr.sm k fun i => sgm e M (i + 1) * A (k - 1 - i)) :
    F_row_by_powers [.list (rowI (M + 1) e), .int ((M + 1 : Nat) : Int)] = some (.list (rowI (M + 1) A)) := by
  have se := sums_eq e he hM
  obtain ⟨ρ', π', E, c4, c5, hρ, hπ⟩ := forGo_inv (tg := gN 4) (b := B_row_by_powers_b1) (fun k ρ π' => ∃ c4 c5 : FL.Slot, ρ = [.arg (rowI (M + 1) e), .dat (.int ((M + 1 : Nat) : Int)), .dat (.list (rowI M fun i => sgm e M (i + 1))), .own (rowI (k + 1) A), c4, c5, .un, .un] ∧ π' = []) (rg 1 M) (by
    rintro k x ρ π' hx ⟨c4, c5, rfl, rfl⟩
    obtain ⟨lk, rfl⟩ := rg_get hx
    have ek : (1 : Int) + (k : Int) = ((k + 1 : Nat) : Int) := by omega
    obtain ⟨c5', b⟩ := rowp_b1 (M := M) (k := k + 1) (by omega) (by omega) (by omega) (fun i => sgm e M (i + 1)) A (fun i _ => sgm_bound he hM _) (fun i l => hA i (by omega)) (hr (k + 1) (by omega) (by omega)) (.arg (rowI (M + 1) e)) (.dat (.int ((M + 1 : Nat) : Int))) c5 .un .un rfl rfl []
    exact ⟨_, _, _, rfl, .inl (by rw [ek]; exact b), _, c5', rfl, rfl⟩) (ρ := [.arg (rowI (M + 1) e), .dat (.int ((M + 1 : Nat) : Int)), .dat (.list (rowI M fun i => sgm e M (i + 1))), .own [.int 1], .un, .un, .un, .un]) (π := []) ⟨.un, .un, by
      have : rowI (0 + 1) A = [.int 1] := by rw [rowI_succ, A0]; rfl
      rw [this], rfl⟩
  subst hρ; subst hπ
  rw [rg_length] at E
  have k1 := rg17.1
  have k2 := rgOk_nat (N := M + 1) (by omega)
  have nt : (((M + 1 : Nat) : Int) - 1).toNat = M := by omega
  have nz : ¬ (((M + 1 : Nat) : Int) = 0) := by omega
  generalize hn : ((M + 1 : Nat) : Int) = n at *
  simp [eqF_int, F_row_by_powers, B_row_by_powers, se, k1, k2, nt, nz, E, -forGo]
theorem rowp_zero (d : D) : F_row_by_powers [d, .int 0] = some (.list []) := by
  simp [eqF_int, F_row_by_powers, B_row_by_powers]
end K38

noncomputable section
namespace K38
open PSr
/-! ### series: factors put on and taken off -/
def put (d : Nat) (f : Sr) : Sr := fun n => f n - if d ≤ n then f (n - d) else 0
def tak (d : Nat) (f : Sr) : Sr := cv f (geo d)
theorem put_cv {d : Nat} (hd : 0 < d) (f : Sr) : put d f = cv f (PSr.st d) := funext fun n => (cv_st d hd f n).symm
theorem put_tak {d : Nat} (hd : 0 < d) (f : Sr) : put d (tak d f) = f := by
  unfold tak
  rw [put_cv hd, cv_assoc, geo_st d hd, cv_one]
theorem tak_of_put {d : Nat} (hd : 0 < d) {f h : Sr} (e : put d h = f) : h = tak d f := by
  unfold tak
  rw [← e, put_cv hd, cv_assoc, cv_comm (PSr.st d), geo_st d hd, cv_one]
theorem tak_rec {d : Nat} (hd : 0 < d) (f : Sr) (n : Nat) : tak d f n = f n + if d ≤ n then tak d f (n - d) else 0 := by
  have h := congrFun (put_tak hd f) n
  unfold put at h
  omega
def it (g : Sr → Sr) : Nat → Sr → Sr
  | 0, f => f
  | n + 1, f => it g n (g f)
def pw (d : Nat) (p : Int) (f : Sr) : Sr := if 0 < p then it (put d) p.natAbs f else it (tak d) p.natAbs f
theorem it_cv {g : Sr → Sr} (h : ∀ a b, g (cv a b) = cv a (g b)) (f : Sr) : ∀ (n : Nat) (x : Sr), it g n (cv f x) = cv f (it g n x)
  | 0, x => rfl
  | n + 1, x => by
    show it g n (g (cv f x)) = _
    rw [h, it_cv h f n (g x)]
    rfl
theorem pw_cv {d : Nat} (hd : 0 < d) (p : Int) (f : Sr) : pw d p f = cv f (pw d p one) := by
  have a : ∀ x y, put d (cv x y) = cv x (put d y) := fun x y => by rw [put_cv hd, put_cv hd, cv_assoc]
  have b : ∀ x y, tak d (cv x y) = cv x (tak d y) := fun x y => by unfold tak; rw [cv_assoc]
  unfold pw
  split
  · rw [← it_cv a f, cv_one]
  · rw [← it_cv b f, cv_one]
/-! each in steps of d -/
def sub (d : Nat) (f : Sr) : Sr := fun n => if n % d = 0 then f (n / d) else 0
theorem sub_one {d : Nat} (hd : 0 < d) : sub d one = one := by
  funext n
  unfold sub one
  by_cases c : n = 0
  · subst c; simp
  · rw [if_neg c]
    split
    · rename_i h
      rw [if_neg]
      intro z
      have := Nat.div_add_mod n d
      rw [z, h] at this
      omega
    · rfl
theorem put_sub {d : Nat} (hd : 0 < d) (f : Sr) : put d (sub d f) = sub d (put 1 f) := by
  funext n
  unfold put sub
  by_cases c : n % d = 0
  · rw [if_pos c, if_pos c]
    congr 1
    have e := Nat.div_add_mod n d
    by_cases h : d ≤ n
    · have q : 1 ≤ n / d := (Nat.le_div_iff_mul_le hd).mpr (by omega)
      have m : (n - d) % d = 0 := by rw [← Nat.mod_eq_sub_mod h]; exact c
      have r : (n - d) / d = n / d - 1 := by
        rw [Nat.div_eq_sub_div hd h]; rfl
      rw [if_pos h, if_pos q, if_pos m, r]
    · rw [if_neg h, if_neg]
      intro q
      have := (Nat.le_div_iff_mul_le hd).mp q
      omega
  · rw [if_neg c, if_neg c]
    by_cases h : d ≤ n
    · have m : ¬ (n - d) % d = 0 := by rw [← Nat.mod_eq_sub_mod h]; exact c
      rw [if_pos h, if_neg m]; rfl
    · rw [if_neg h]; rfl
theorem tak_sub {d : Nat} (hd : 0 < d) (f : Sr) : tak d (sub d f) = sub d (tak 1 f) := by
  symm
  refine tak_of_put hd ?_
  rw [put_sub hd, put_tak (by decide)]
theorem it_sub {d : Nat} {g h : Sr → Sr} (e : ∀ f, g (sub d f) = sub d (h f)) : ∀ (n : Nat) (f : Sr), it g n (sub d f) = sub d (it h n f)
  | 0, f => rfl
  | n + 1, f => by
    show it g n (g (sub d f)) = _
    rw [e, it_sub e n (h f)]
    rfl
/-- the numbers of a power -/
def bn (p : Int) : Sr := pw 1 p one
theorem pw_sub {d : Nat} (hd : 0 < d) (p : Int) : pw d p one = sub d (bn p) := by
  unfold bn pw
  split
  · rw [← it_sub (put_sub hd), sub_one hd]
  · rw [← it_sub (tak_sub hd), sub_one hd]
/-! the rule that they keep -/
theorem ld_ext {s t f : Sr} (h : Ld s f) (e : ∀ k, s k = t k) : Ld t f := by
  rw [show t = s from funext fun k => (e k).symm]; exact h
theorem ld_put {d : Nat} (hd : 0 < d) {s f : Sr} (h : Ld s f) : Ld (fun k => s k - dv d k) (put d f) := by
  rw [put_cv hd]
  exact ld_ext (ld_cv h (ld_st d hd)) fun k => by show s k + - dv d k = _; omega
theorem ld_tak {d : Nat} (hd : 0 < d) {s f : Sr} (h : Ld s f) : Ld (fun k => s k + dv d k) (tak d f) := ld_cv h (ld_geo d hd)
theorem ld_itp {d : Nat} (hd : 0 < d) : ∀ (n : Nat) {s f : Sr}, Ld s f → Ld (fun k => s k - (n : Int) * dv d k) (it (put d) n f)
  | 0, s, f, h => ld_ext h fun k => by simp
  | n + 1, s, f, h => ld_ext (ld_itp hd n (ld_put hd h)) fun k => by
    show s k - dv d k - (n : Int) * dv d k = s k - ((n + 1 : Nat) : Int) * dv d k
    rw [Int.natCast_add, Int.add_mul]; omega
theorem ld_itt {d : Nat} (hd : 0 < d) : ∀ (n : Nat) {s f : Sr}, Ld s f → Ld (fun k => s k + (n : Int) * dv d k) (it (tak d) n f)
  | 0, s, f, h => ld_ext h fun k => by simp
  | n + 1, s, f, h => ld_ext (ld_itt hd n (ld_tak hd h)) fun k => by
    show s k + dv d k + (n : Int) * dv d k = s k + ((n + 1 : Nat) : Int) * dv d k
    rw [Int.natCast_add, Int.add_mul]; omega
theorem ld_pw {d : Nat} (hd : 0 < d) (p : Int) {s f : Sr} (h : Ld s f) : Ld (fun k => s k - p * dv d k) (pw d p f) := by
  unfold pw
  split
  · refine ld_ext (ld_itp hd p.natAbs h) fun k => ?_
    rw [show (p.natAbs : Int) = p by omega]
  · refine ld_ext (ld_itt hd p.natAbs h) fun k => ?_
    rw [show (p.natAbs : Int) = -p by omega, Int.neg_mul]; omega
theorem it_zero {g : Sr → Sr} (h : ∀ f, g f 0 = f 0) : ∀ (n : Nat) (f : Sr), it g n f 0 = f 0
  | 0, f => rfl
  | n + 1, f => by show it g n (g f) 0 = _; rw [it_zero h n, h]
theorem put_zero {d : Nat} (hd : 0 < d) (f : Sr) : put d f 0 = f 0 := by
  unfold put
  rw [if_neg (by omega)]; omega
theorem tak_zero {d : Nat} (hd : 0 < d) (f : Sr) : tak d f 0 = f 0 := by
  rw [tak_rec hd, if_neg (by omega)]; omega
theorem pw_zero {d : Nat} (hd : 0 < d) (p : Int) (f : Sr) : pw d p f 0 = f 0 := by
  unfold pw
  split
  · exact it_zero (put_zero hd) _ _
  · exact it_zero (tak_zero hd) _ _
theorem bn_zero (p : Int) : bn p 0 = 1 := pw_zero (by decide) p one
theorem bn_ld (p : Int) : Ld (fun k => - p * dv 1 k) (bn p) := ld_ext (ld_pw (by decide) p ld_one) fun k => by
  show 0 - p * dv 1 k = _
  rw [Int.neg_mul]; omega
theorem ld_at {s f : Sr} (h : Ld s f) (s0 : s 0 = 0) (n : Nat) : (n : Int) * f n = sm n fun i => s (i + 1) * f (n - 1 - i) := by
  have e := congrFun h n
  have e : (n : Int) * f n = sm (n + 1) (fun i => s i * f (n - i)) := e
  rw [e, sm_head, s0, Int.zero_mul, Int.zero_add]
  exact sm_congr fun i hi => by rw [show n - (i + 1) = n - 1 - i by omega]
theorem bn_next (p : Int) (n : Nat) : ((n + 1 : Nat) : Int) * bn p (n + 1) = ((n : Int) - p) * bn p n := by
  have z : (fun k => - p * dv 1 k) 0 = 0 := by show - p * dv 1 0 = 0; unfold dv; simp
  have d1 : ∀ i, dv 1 (i + 1) = 1 := fun i => by unfold dv; simp [Nat.mod_one]
  have a := ld_at (bn_ld p) z (n + 1)
  have b := ld_at (bn_ld p) z n
  have e1 : sm (n + 1) (fun i => (fun k => - p * dv 1 k) (i + 1) * bn p (n + 1 - 1 - i)) = - p * sm (n + 1) (bn p) := by
    rw [← sm_mul, ← sm_rev (n + 1) (fun i => - p * bn p i)]
    exact sm_congr fun i _ => by
      show - p * dv 1 (i + 1) * _ = _
      rw [d1, Int.mul_one]
  have e2 : sm n (fun i => (fun k => - p * dv 1 k) (i + 1) * bn p (n - 1 - i)) = - p * sm n (bn p) := by
    rw [← sm_mul, ← sm_rev n (fun i => - p * bn p i)]
    exact sm_congr fun i _ => by
      show - p * dv 1 (i + 1) * _ = _
      rw [d1, Int.mul_one]
  rw [e1, sm_succ, Int.mul_add] at a
  rw [e2] at b
  rw [a, ← b, Int.sub_mul, Int.neg_mul]
  omega
end K38

noncomputable section
namespace K38
open PySem PySem.Spec PyProof.Rows L2 EP FL
open PSr (sm sm_succ Sr Ld cv one dv)
/-- a series with a rule whose numbers are small -/
def Good (f : Sr) (B : Nat) : Prop := ∃ s : Sr, Ld s f ∧ s 0 = 0 ∧ (∀ k, (s k).natAbs ≤ B) ∧ f 0 = 1
theorem good_bound {f : Sr} {B : Nat} (g : Good f B) (b1 : 1 ≤ B) : ∀ n, (f n).natAbs ≤ B ^ n := by
  obtain ⟨s, l, s0, sb, f0⟩ := g
  intro n
  induction n using Nat.strongRecOn with
  | _ n ih =>
    rcases Nat.eq_zero_or_pos n with c | c
    · subst c; rw [f0]; simp
    · have e := ld_at l s0 n
      have h := sm_bound (B * B ^ (n - 1)) (fun i => s (i + 1) * f (n - 1 - i)) n fun i hi => by
        rw [Int.natAbs_mul]
        exact Nat.mul_le_mul (sb _) (Nat.le_trans (ih _ (by omega)) (Nat.pow_le_pow_right b1 (by omega)))
      rw [← e, Int.natAbs_mul, Int.natAbs_natCast] at h
      have h := Nat.le_of_mul_le_mul_left h c
      have p : B * B ^ (n - 1) = B ^ n := by
        rw [Nat.mul_comm, ← Nat.pow_succ]; congr 1; omega
      rw [p] at h
      exact h
theorem good_lt {f : Sr} {B : Nat} (g : Good f B) (b1 : 1 ≤ B) (b2 : B ≤ 1048576) {n : Nat} (hn : n ≤ 30) : (f n).natAbs < 2 ^ 620 := by
  have h := good_bound g b1 n
  have h2 : B ^ n ≤ (1048576) ^ n := Nat.pow_le_pow_left b2 n
  have h3 : (1048576) ^ n ≤ (1048576) ^ 30 := Nat.pow_le_pow_right (by decide) hn
  have h4 : (1048576) ^ 30 = 2 ^ 600 := by decide +kernel
  have h5 : 2 ^ 600 < 2 ^ 620 := Nat.pow_lt_pow_right (by decide) (by decide)
  omega
theorem good_one (B : Nat) : Good one B := ⟨_, PSr.ld_one, rfl, fun k => by simp, rfl⟩
theorem dv_abs (d k : Nat) : (dv d k).natAbs ≤ d := by have := dv_le d k; omega
theorem good_pw {d : Nat} (hd : 0 < d) {p : Int} {f : Sr} {B : Nat} (g : Good f B) : Good (pw d p f) (B + p.natAbs * d) := by
  obtain ⟨s, l, s0, sb, f0⟩ := g
  refine ⟨_, ld_pw hd p l, ?_, fun k => ?_, by rw [pw_zero hd, f0]⟩
  · show s 0 - p * dv d 0 = 0
    have : dv d 0 = 0 := by unfold PSr.dv; rw [if_pos rfl]
    rw [s0, this, Int.mul_zero]; rfl
  · show (s k - p * dv d k).natAbs ≤ _
    have a := sb k
    have b : (p * dv d k).natAbs ≤ p.natAbs * d := by rw [Int.natAbs_mul]; exact Nat.mul_le_mul_left _ (dv_abs d k)
    omega
theorem good_mono {f : Sr} {B C : Nat} (g : Good f B) (h : B ≤ C) : Good f C := by
  obtain ⟨s, l, s0, sb, f0⟩ := g
  exact ⟨s, l, s0, fun k => Nat.le_trans (sb k) h, f0⟩
theorem bn_lt {p : Int} (hp : p.natAbs ≤ 60) {n : Nat} (hn : n ≤ 30) : (bn p n).natAbs < 2 ^ 620 := by
  have g : Good (bn p) (60 + p.natAbs * 1) := good_pw (by decide) (good_one 60)
  exact good_lt g (by omega) (by have : (120 : Nat) ≤ 1048576 := by decide
                                 omega) hn
/-! ### the plain way: one factor -/
end K38

noncomputable section
namespace K38
open PySem PySem.Spec PyProof.Rows L2 EP FL
open PSr (sm sm_succ sm_congr Sr Ld cv one dv)
theorem enum_rowI (f : Nat → Int) : ∀ (N k : Nat), enumFrom k ((List.range' k N).map fun i => PyData.int (f i)) = (List.range' k N).map fun i => .tuple [.int (i : Int), .int (f i)]
  | 0, k => rfl
  | N + 1, k => by
    rw [List.range'_succ, List.map_cons, List.map_cons]
    show .tuple [.int (k : Int), .int (f k)] :: enumFrom (k + 1) _ = _
    rw [enum_rowI f N (k + 1)]
theorem enum_row (f : Nat → Int) (N : Nat) : enumFrom 0 (rowI N f) = (List.range N).map fun i => .tuple [.int (i : Int), .int (f i)] := by
  have := enum_rowI f N 0
  rw [← List.range_eq_range'] at this
  exact this
theorem sm_split (a b : Nat) (f : Nat → Int) : sm (a + b) f = sm a f + sm b (fun j => f (a + j)) := by
  induction b with
  | zero => simp
  | succ b ih => rw [← Nat.add_assoc, sm_succ, ih, sm_succ, Int.add_assoc]
theorem sm_mult (p : Nat) (hp : 0 < p) (g : Nat → Int) : ∀ n, sm (n + 1) (fun i => if i % p = 0 then g i else 0) = sm (n / p + 1) (fun j => g (p * j))
  | 0 => by simp [PSr.sm]
  | n + 1 => by
    rw [sm_succ, sm_mult p hp g n]
    by_cases c : (n + 1) % p = 0
    · rw [if_pos c]
      obtain ⟨q, hq⟩ := Nat.dvd_of_mod_eq_zero c
      have q0 : 0 < q := by rcases Nat.eq_zero_or_pos q with z | z; (subst z; simp at hq); exact z
      have e1 : (n + 1) / p = q := by rw [hq, Nat.mul_div_cancel_left _ hp]
      have e2 : n / p = q - 1 := by
        have : n = p * (q - 1) + (p - 1) := by
          have : p * q = p * (q - 1) + p := by rw [← Nat.mul_succ]; congr 1; omega
          omega
        rw [this, Nat.mul_add_div hp, Nat.div_eq_of_lt (by omega)]; omega
      rw [e1, e2, show q - 1 + 1 = q by omega, sm_succ, hq]
    · rw [if_neg c]
      have e : (n + 1) / p = n / p := by
        rw [Nat.succ_div, if_neg fun z => c (Nat.mod_eq_zero_of_dvd z)]; rfl
      rw [e]; omega
theorem n3_lt {d N k : Nat} (d0 : 0 < d) : k < n3 (d : Int) N d ↔ (k + 1) * d < N := by
  have e : (k + 1) * d = k * d + d := Nat.succ_mul k d
  have dk : ((k * d : Nat) : Int) = (k : Int) * d := by push_cast; rfl
  unfold n3 Builtin.Range.rangeSize
  rw [if_pos (by omega)]
  by_cases c : (d : Int) < N
  · rw [if_pos c]
    have nn := Int.ediv_nonneg (show (0 : Int) ≤ (N : Int) - d - 1 by omega) (show (0 : Int) ≤ d by omega)
    have m := Int.le_ediv_iff_mul_le (a := (k : Int)) (b := (N : Int) - d - 1) (c := (d : Int)) (by omega)
    generalize ((N : Int) - d - 1) / d = q at *
    generalize (k : Int) * d = z at *
    omega
  · rw [if_neg c]
    omega

theorem cv_sub {d : Nat} (hd : 0 < d) (f b : Sr) (n : Nat) : cv f (sub d b) n = sm (n / d + 1) fun j => b j * f (n - d * j) := by
  rw [PSr.cv_comm]
  show sm (n + 1) (fun i => sub d b i * f (n - i)) = _
  have e : sm (n + 1) (fun i => sub d b i * f (n - i)) = sm (n + 1) (fun i => if i % d = 0 then (fun i => b (i / d) * f (n - i)) i else 0) := sm_congr fun i _ => by
    unfold sub
    split <;> simp
  rw [e, sm_mult d hd]
  exact sm_congr fun j _ => by
    show b (d * j / d) * f (n - d * j) = _
    rw [Nat.mul_div_cancel_left _ hd]
/-! ### the law's way: one factor by the numbers of its power -/
def el : En → Nat → FL.Slot := fun ρ i => ρ.getD i .un
end K38

noncomputable section
namespace K38
open PySem PySem.Spec PyProof.Rows L2 EP FL
open PSr (sm sm_succ sm_congr Sr Ld cv one dv)
abbrev Ps := List (Int × Int)
def Pd (ps : Ps) : D := .tuple [.str "product", .tuple (rowsP ps)]
def sN (q : Int × Int) : Nat := q.1.toNat
/-- drawn products -/
structure Gp (ps : Ps) : Prop where
  len : ps.length ≤ 12
  ok : ∀ q ∈ ps, 1 ≤ q.1 ∧ q.1 ≤ 60 ∧ q.2 ≠ 0 ∧ -60 ≤ q.2 ∧ q.2 ≤ 60
  ris : (ps.map Prod.fst).Pairwise (· < ·)
/-! ### all factors -/
def mf (s : Nat) (p : Int) : Nat → Sr → Sr
  | 0, f => f
  | i + 1, f => pw ((i + 1) * s) p (mf s p i f)
def nm (s N : Nat) : Nat := n3 (s : Int) (N : Int) (s : Int)
def pf (N : Nat) : Ps → Sr → Sr
  | [], f => f
  | q :: ps, f => pf N ps (mf (sN q) q.2 (nm (sN q) N) f)
theorem nm_lt {s N k : Nat} (s0 : 0 < s) (h : k < nm s N) : (k + 1) * s < N := (n3_lt s0).mp h
theorem nm_le {s N : Nat} (s0 : 0 < s) : nm s N ≤ N := by
  rcases Nat.eq_zero_or_pos (nm s N) with c | c
  · omega
  · have := nm_lt s0 (show nm s N - 1 < nm s N by omega)
    rw [show nm s N - 1 + 1 = nm s N by omega] at this
    have := Nat.le_mul_of_pos_right (nm s N) s0
    omega
theorem good_mf {s N : Nat} {p : Int} (s0 : 0 < s) (hN : N ≤ 30) (hp : p.natAbs ≤ 60) {f : Sr} {B : Nat} (g : Good f B) : ∀ i, i ≤ nm s N → Good (mf s p i f) (B + 1800 * i)
  | 0, _ => good_mono g (by omega)
  | i + 1, h => by
    have ih := good_mf s0 hN hp g i (by omega)
    have l := nm_lt s0 (show i < nm s N by omega)
    have := good_pw (d := (i + 1) * s) (p := p) (Nat.mul_pos (by omega) s0) ih
    refine good_mono this ?_
    have : p.natAbs * ((i + 1) * s) ≤ 60 * 30 := Nat.mul_le_mul hp (by omega)
    omega
theorem sN_ok {ps : Ps} (g : Gp ps) : ∀ q ∈ ps, 1 ≤ sN q ∧ sN q ≤ 60 ∧ q.1 = (sN q : Int) ∧ q.2.natAbs ≤ 60 := fun q hq => by
  have := g.ok q hq
  unfold sN
  omega
theorem mul0 {N : Nat} (h : N ≤ 100000) : mulF (.list [.int 0]) (.int (N : Int)) = some (.list (List.replicate N (.int 0))) := by
  have r := rep0 h
  rw [← rowI_replicate] at r
  exact r
theorem one_row (M : Nat) : [PyData.int 1] ++ List.replicate M (.int 0) = rowI (M + 1) one := by
  rw [rowI_replicate, rowI_cons]
  rfl
/-! ### the plain way -/
end K38

noncomputable section
namespace K38
open PySem PySem.Spec PyProof.Rows L2 EP FL
open PSr (sm sm_succ sm_congr Sr Ld cv one dv)
theorem good_pf {N : Nat} (hN : N ≤ 30) : ∀ (ps : Ps) (f : Sr) (B : Nat), (∀ q ∈ ps, 1 ≤ sN q ∧ sN q ≤ 60 ∧ q.1 = (sN q : Int) ∧ q.2.natAbs ≤ 60) → Good f B → Good (pf N ps f) (B + 54000 * ps.length)
  | [], f, B, _, g => g
  | q :: ps, f, B, h, g => by
    obtain ⟨s0, s1, hs, hp⟩ := h q List.mem_cons_self
    have nb := nm_le (N := N) s0
    have g2 := good_mono (good_mf (s := sN q) (N := N) (p := q.2) s0 hN hp g (nm (sN q) N) (Nat.le_refl _)) (show B + 1800 * nm (sN q) N ≤ B + 54000 by omega)
    have := good_pf hN ps _ (B + 54000) (fun r hr => h r (List.mem_cons_of_mem _ hr)) g2
    refine good_mono this ?_
    rw [List.length_cons]; omega
/-- the series of a product, as far as N -/
def PF (N : Nat) (ps : Ps) : Sr := pf N ps one
theorem PF_good {N : Nat} (hN : N ≤ 30) {ps : Ps} (g : Gp ps) : Good (PF N ps) 648001 := by
  have l := g.len
  exact good_mono (good_pf hN ps one 1 (sN_ok g) (good_one 1)) (by omega)
theorem PF_lt {N : Nat} (hN : N ≤ 30) {ps : Ps} (g : Gp ps) {n : Nat} (hn : n ≤ 30) : (PF N ps n).natAbs < 2 ^ 620 := good_lt (PF_good hN g) (by decide) (by decide) hn
theorem digits_row {N : Nat} {f : Sr} (hN : N ≤ 100) (h : ∀ i, i < N → (f i).natAbs < 2 ^ 620) : F_check_digits [.list (rowI N f)] = some .none := by
  obtain ⟨T, p1, p2⟩ : ∃ T : Int, (powF (.int 10) (.int 50)).bind (fun x => powF x (.int 8)) = some (.int T) ∧ 2 ^ 620 ≤ T := by
    have a1 : powF (.int 10) (.int 50) = some (.int (10 ^ 50)) := by
      have c : powOk 10 50 = true := powOk_of (by decide) (by decide) (by decide)
      simp only [powF, intF, c, if_true]; rfl
    have a2 : powF (.int (10 ^ 50)) (.int 8) = some (.int ((10 ^ 50) ^ 8)) := by
      have c : powOk (10 ^ 50) 8 = true := cdec_of (by decide +kernel)
      simp only [powF, intF, c, if_true]; rfl
    exact ⟨(10 ^ 50) ^ 8, by rw [a1]; exact a2, by decide +kernel⟩
  obtain ⟨x, x1, x2⟩ := Option.bind_eq_some_iff.mp p1
  have L := lc_rowI (tg := gN 2) (tt := xYes) (el := xOp (cmpF fun i j => decide (j ≤ i)) (xCb absF (aCons (xBo 2) aNil)) (xBo 1)) (ρw := [.arg (rowI N f), .dat (.int T), .un]) (π := []) f (fun _ => .bool false) (List.range N) fun i hi => by
    have hb := h i (List.mem_range.mp hi)
    have e1 : absF [.int (f i)] = some (.int ((f i).natAbs : Int)) := by
      have : (if f i < 0 then -f i else f i) = ((f i).natAbs : Int) := by omega
      simp [absF, this]
    have e2 : ¬ T ≤ ((f i).natAbs : Int) := by omega
    refine ⟨_, rfl, rfl, ?_⟩
    generalize ((f i).natAbs : Int) = Z at *
    simp [e1, e2, -absF]
  have L : lcGo (gN 2) xYes (xOp (cmpF fun i j => decide (j ≤ i)) (xCb absF (aCons (xBo 2) aNil)) (xBo 1)) [.arg (rowI N f), .dat (.int T), .un] (rowI N f) [] = some ((List.range N).map fun _ => .bool false, []) := L
  have bo : boolsO ((List.range N).map fun _ => (.bool false : D)) = some ((List.range N).map fun _ => false) := by
    have : ∀ L : List Nat, boolsO (L.map fun _ => (.bool false : D)) = some (L.map fun _ => false) := by
      intro L
      induction L with
      | nil => rfl
      | cons x L ih => show (boolsO (L.map fun _ => (.bool false : D))).map _ = _; rw [ih]; rfl
    exact this _
  have ba : ((List.range N).map fun _ => false).any id = false := by
    simp
  have ln : (rowI N f).length ≤ 100000 := by simp [rowI]; omega
  have af : anyF [.list ((List.range N).map fun _ => (.bool false : D))] = some (.bool false) := by
    show (boolsO _).map _ = _
    rw [bo]
    show some (PyData.bool _) = _
    rw [ba]
  generalize rowI N f = R at *
  generalize ((List.range N).map fun _ => (.bool false : D)) = R2 at *
  simp [F_check_digits, B_check_digits, x1, x2, L, ln, af, -lcGo, -anyF, -cmpF]
theorem is_within_eq (i lo hi : Int) : F_is_within [.int i, .int lo, .int hi] = some (.bool (decide (lo ≤ i ∧ i ≤ hi))) := by
  have a : F_is_integer [.int i] = some (.bool true) := rfl
  by_cases h : lo ≤ i <;> simp [F_is_within, B_is_within, a, h]
theorem check_many_eq {N : Nat} {m : Int} (h : (N : Int) ≤ m) : F_check_many [.int N, .int m] = some .none := by
  have w1 := is_within_eq (N : Int) 0 m
  rw [decide_eq_true (by omega)] at w1
  simp [F_check_many, B_check_many, w1]
end K38

noncomputable section
namespace K38
open PySem PySem.Spec PyProof.Rows L2 EP FL
open PSr (sm sm_succ sm_congr Sr Ld cv one dv)
theorem num_b1 {N d : Nat} (d0 : 0 < d) (hd : d < N) (hN : N ≤ 100) (f : Nat → Int) (x : Int) (s0 s1 s3 c5 : FL.Slot) (h5 : c5.isOwn = false) (π : Pot) : ∃ c5' : FL.Slot, c5'.isOwn = false ∧
    forGo (gN 5) B_numbers_of_b1 (rg3 d N d) [s0, s1, .own (rowI N f), s3, .dat (.int x), c5] π = some ([s0, s1, .own (rowI N fun p => if 0 < p ∧ p % d = 0 then f p + x else f p), s3, .dat (.int x), c5'], π, .nx) := by
  have L := forGo_inv (tg := gN 5) (b := B_numbers_of_b1) (fun i ρ π2 => ∃ c5 : FL.Slot, ρ = [s0, s1, .own (rowI N fun p => if 0 < p ∧ p % d = 0 ∧ p ≤ i * d then f p + x else f p), s3, .dat (.int x), c5] ∧ π2 = π ∧ c5.isOwn = false) (rg3 d N d) (by
    rintro i dd ρ π2 hd ⟨c5, rfl, rfl, h5⟩
    obtain ⟨li, rfl⟩ := rg3_get hd
    have lt := (n3_lt d0).mp li
    have e0 : (d : Int) + (i : Int) * d = (((i + 1) * d : Nat) : Int) := by push_cast; rw [Int.add_mul]; omega
    rw [e0]
    have e7 : (i + 1) * d = i * d + d := Nat.succ_mul i d
    have pm : (i + 1) * d % d = 0 := Nat.mul_mod_left _ _
    generalize hV : (i + 1) * d = V at *
    have e1 : atI (rowI N fun p => if 0 < p ∧ p % d = 0 ∧ p ≤ i * d then f p + x else f p) (V : Int) = some (.int (f V)) := by
      rw [rowI_at (by omega) (by omega)]
      rw [show (V : Int).toNat = V by omega, if_neg (by omega)]
    have e4 : ixN (rowI N fun p => if 0 < p ∧ p % d = 0 ∧ p ≤ i * d then f p + x else f p).length (V : Int) = some V := by
      unfold ixN
      have : (rowI N fun p => if 0 < p ∧ p % d = 0 ∧ p ≤ i * d then f p + x else f p).length = N := by simp [rowI]
      rw [this, if_pos (by omega), if_pos (by omega)]
      congr 1
    refine ⟨_, [s0, s1, .own ((rowI N fun p => if 0 < p ∧ p % d = 0 ∧ p ≤ i * d then f p + x else f p).set V (.int (f V + x))), s3, .dat (.int x), .dat (.int (V : Int))], π2, by simp [h5]; rfl, .inl ?_, .dat (.int (V : Int)), ?_, rfl, rfl⟩
    · generalize hR : (rowI N fun p => if 0 < p ∧ p % d = 0 ∧ p ≤ i * d then f p + x else f p) = R at *
      simp [B_numbers_of_b1, e1, e4]
    · rw [rowI_set]
      have hrow : (rowI N fun p => if p = V then f V + x else if 0 < p ∧ p % d = 0 ∧ p ≤ i * d then f p + x else f p) = rowI N fun p => if 0 < p ∧ p % d = 0 ∧ p ≤ (i + 1) * d then f p + x else f p := rowI_congr fun p hp => by
        rw [hV]
        by_cases c : p = V
        · subst c
          rw [if_pos rfl, if_pos ⟨by omega, pm, by omega⟩]
        · rw [if_neg c]
          by_cases c2 : 0 < p ∧ p % d = 0 ∧ p ≤ i * d
          · rw [if_pos c2, if_pos ⟨c2.1, c2.2.1, by omega⟩]
          · rw [if_neg c2, if_neg]
            rintro ⟨p1, p2, p3⟩
            have e8 := Nat.div_add_mod p d
            rw [p2] at e8
            have e9 : d * (p / d) = p / d * d := Nat.mul_comm _ _
            by_cases c3 : p / d ≤ i
            · have := Nat.mul_le_mul_right d c3
              exact c2 ⟨p1, p2, by omega⟩
            · by_cases c4 : p / d = i + 1
              · have : p / d * d = (i + 1) * d := by rw [c4]
                omega
              · have := Nat.mul_le_mul_right d (show i + 2 ≤ p / d by omega)
                have : (i + 2) * d = i * d + 2 * d := by rw [Nat.add_mul]
                omega
      rw [hrow, hV]) (ρ := [s0, s1, .own (rowI N f), s3, .dat (.int x), c5]) (π := π) ⟨c5, by
        have hrow : (rowI N fun p => if 0 < p ∧ p % d = 0 ∧ p ≤ 0 * d then f p + x else f p) = rowI N f := rowI_congr fun p hp => by
          rw [if_neg (by omega)]
        rw [hrow], rfl, h5⟩
  obtain ⟨ρ', π', e, c5', rfl, rfl, h5'⟩ := L
  rw [rg3_length] at e
  refine ⟨c5', h5', ?_⟩
  rw [e]
  have hrow : (rowI N fun p => if 0 < p ∧ p % d = 0 ∧ p ≤ n3 d N d * d then f p + x else f p) = rowI N fun p => if 0 < p ∧ p % d = 0 then f p + x else f p := rowI_congr fun p hp => by
    by_cases c : 0 < p ∧ p % d = 0
    · have key : p ≤ n3 d N d * d := by
        have e8 := Nat.div_add_mod p d
        rw [c.2] at e8
        have e9 : d * (p / d) = p / d * d := Nat.mul_comm _ _
        have q0 : 0 < p / d := by
          rcases Nat.eq_zero_or_pos (p / d) with z | z
          · rw [z, Nat.mul_zero] at e8; omega
          · exact z
        have := (n3_lt (N := N) (k := p / d - 1) d0).mpr (by rw [show p / d - 1 + 1 = p / d by omega]; omega)
        have := Nat.mul_le_mul_right d (show p / d ≤ n3 d N d by omega)
        omega
      rw [if_pos c, if_pos ⟨c.1, c.2, key⟩]
    · rw [if_neg c, if_neg (fun z => c ⟨z.1, z.2.1⟩)]
  rw [hrow]

def ee : Ps → (Nat → Int) → (Nat → Int)
  | [], f => f
  | q :: ps, f => ee ps fun p => if 0 < p ∧ p % sN q = 0 then f p + q.2 else f p
def eS : Ps → Nat → Int
  | [], _ => 0
  | q :: ps, n => (if n % sN q = 0 then q.2 else 0) + eS ps n
theorem ee_eS : ∀ (ps : Ps) (f : Nat → Int) (n : Nat), 0 < n → ee ps f n = f n + eS ps n
  | [], f, n, _ => by show f n = f n + 0; omega
  | q :: ps, f, n, h => by
    show ee ps _ n = f n + ((if n % sN q = 0 then q.2 else 0) + eS ps n)
    rw [ee_eS ps _ n h]
    by_cases c : n % sN q = 0
    · rw [if_pos ⟨h, c⟩, if_pos c]; omega
    · rw [if_neg fun z => c z.2, if_neg c]; omega
theorem ee_zero : ∀ (ps : Ps) (f : Nat → Int), ee ps f 0 = f 0
  | [], f => rfl
  | q :: ps, f => by
    show ee ps _ 0 = f 0
    rw [ee_zero ps]
    rw [if_neg (by omega)]
theorem num_loop {N : Nat} (hN : N ≤ 30) (X : FL.Slot) (π : Pot) : ∀ (ps : Ps) (f : Nat → Int) (c3 c4 c5 : FL.Slot), (∀ q ∈ ps, 1 ≤ sN q ∧ sN q ≤ 60 ∧ q.1 = (sN q : Int) ∧ q.2.natAbs ≤ 60) → c3.isOwn = false → c4.isOwn = false → c5.isOwn = false → ∃ c3' c4' c5' : FL.Slot,
    forGo (gT 2 (gsC (gN 3) (gsC (gN 4) gsN))) B_numbers_of_b2 (rowsP ps) [X, .dat (.int N), .own (rowI N f), c3, c4, c5] π = some ([X, .dat (.int N), .own (rowI N (ee ps f)), c3', c4', c5'], π, .nx)
  | [], f, c3, c4, c5, _, _, _, _ => ⟨c3, c4, c5, rfl⟩
  | q :: ps, f, c3, c4, c5, h, h3, h4, h5 => by
    obtain ⟨s0, s1, hs, hp⟩ := h q List.mem_cons_self
    have r3 : r3Ok (sN q : Int) N (sN q : Int) = true := cdec_of ⟨⟨by omega, by omega⟩, ⟨by omega, by omega⟩, by omega, by omega, by omega⟩
    have ep : ee (q :: ps) f = ee ps fun p => if 0 < p ∧ p % sN q = 0 then f p + q.2 else f p := rfl
    have step : ∃ d5 : FL.Slot, d5.isOwn = false ∧ B_numbers_of_b2 [X, .dat (.int N), .own (rowI N f), .dat (.int q.1), .dat (.int q.2), c5] π = some ([X, .dat (.int N), .own (rowI N fun p => if 0 < p ∧ p % sN q = 0 then f p + q.2 else f p), .dat (.int q.1), .dat (.int q.2), d5], π, .nx) := by
      by_cases c : sN q < N
      · obtain ⟨d5, e5, b⟩ := num_b1 s0 c (by omega) f q.2 X (.dat (.int N)) (.dat (.int q.1)) c5 h5 π
        refine ⟨d5, e5, ?_⟩
        rw [← hs] at b r3
        generalize (rowI N fun p => if 0 < p ∧ p % sN q = 0 then f p + q.2 else f p) = R1 at *
        generalize rowI N f = R2 at *
        simp [B_numbers_of_b2, r3, b, -forGo]
      · have z : rg3 (sN q : Int) N (sN q : Int) = [] := by
          apply List.eq_nil_of_length_eq_zero
          rw [rg3_length]
          rcases Nat.eq_zero_or_pos (n3 (sN q : Int) N (sN q : Int)) with e | e
          · exact e
          · have := (n3_lt s0).mp e
            omega
        have hr : (rowI N fun p => if 0 < p ∧ p % sN q = 0 then f p + q.2 else f p) = rowI N f := rowI_congr fun p hp => by
          rw [if_neg]
          rintro ⟨a, b⟩
          rw [Nat.mod_eq_of_lt (by omega)] at b
          omega
        refine ⟨c5, h5, ?_⟩
        rw [hr]
        rw [← hs] at z r3
        generalize rowI N f = R2 at *
        simp [B_numbers_of_b2, r3, z]
    obtain ⟨d5, e5, b⟩ := step
    obtain ⟨c3', c4', c5', ih⟩ := num_loop hN X π ps (fun p => if 0 < p ∧ p % sN q = 0 then f p + q.2 else f p) (.dat (.int q.1)) (.dat (.int q.2)) d5 (fun r hr => h r (List.mem_cons_of_mem _ hr)) rfl rfl e5
    refine ⟨c3', c4', c5', ?_⟩
    rw [ep]
    show forGo _ _ (.tuple [.int q.1, .int q.2] :: rowsP ps) _ π = _
    unfold forGo
    generalize (rowI N fun p => if 0 < p ∧ p % sN q = 0 then f p + q.2 else f p) = R1 at *
    generalize rowI N f = R2 at *
    simp [h3, h4, b, ih, -forGo]
/-! ### the rule of the whole -/
def sQ (N : Nat) : Ps → Nat → Int
  | [], _ => 0
  | q :: ps, k => q.2 * sm (nm (sN q) N) (fun j => dv ((j + 1) * sN q) k) + sQ N ps k
theorem ld_mf {s : Nat} (s0 : 0 < s) (p : Int) {t f : Sr} (h : Ld t f) : ∀ i, Ld (fun k => t k - p * sm i fun j => dv ((j + 1) * s) k) (mf s p i f)
  | 0 => ld_ext h fun k => by show t k = t k - p * 0; rw [Int.mul_zero]; omega
  | i + 1 => ld_ext (ld_pw (Nat.mul_pos (Nat.succ_pos i) s0) p (ld_mf s0 p h i)) fun k => by
    show t k - p * sm i (fun j => dv ((j + 1) * s) k) - p * dv ((i + 1) * s) k = _
    rw [sm_succ, Int.mul_add]; omega
theorem ld_pf (N : Nat) : ∀ (ps : Ps) {t f : Sr}, (∀ q ∈ ps, 1 ≤ sN q) → Ld t f → Ld (fun k => t k - sQ N ps k) (pf N ps f)
  | [], t, f, _, h => ld_ext h fun k => by show t k = t k - 0; omega
  | q :: ps, t, f, hq, h => ld_ext (ld_pf N ps (fun r hr => hq r (List.mem_cons_of_mem _ hr)) (ld_mf (hq q List.mem_cons_self) q.2 h (nm (sN q) N))) fun k => by
    show t k - _ - sQ N ps k = t k - (_ + sQ N ps k)
    omega
theorem PF_ld {N : Nat} {ps : Ps} (g : Gp ps) : Ld (fun k => - sQ N ps k) (PF N ps) := ld_ext (ld_pf N ps (fun q hq => (sN_ok g q hq).1) PSr.ld_one) fun k => by
  show 0 - sQ N ps k = _
  omega
theorem dv_zero (d : Nat) : dv d 0 = 0 := by unfold PSr.dv; rw [if_pos rfl]
theorem sQ_zero (N : Nat) : ∀ ps : Ps, sQ N ps 0 = 0
  | [] => rfl
  | q :: ps => by
    show q.2 * sm _ (fun j => dv ((j + 1) * sN q) 0) + sQ N ps 0 = 0
    rw [sQ_zero N ps, PSr.sm_null fun i _ => dv_zero _]
    omega
theorem nm_div {s M : Nat} (s0 : 0 < s) : nm s (M + 1) = M / s := by
  have a : ∀ k, k < nm s (M + 1) ↔ k < M / s := fun k => by
    unfold nm
    rw [n3_lt s0]
    constructor
    · intro h
      have := (Nat.le_div_iff_mul_le s0 (x := k + 1) (y := M)).mpr (by omega)
      omega
    · intro h
      have := (Nat.le_div_iff_mul_le s0 (x := k + 1) (y := M)).mp (by omega)
      omega
  rcases Nat.lt_trichotomy (nm s (M + 1)) (M / s) with c | c | c
  · have := (a (nm s (M + 1))).mpr c; omega
  · exact c
  · have := (a (M / s)).mp c; omega
theorem mult_sum {s M : Nat} (s0 : 0 < s) (G : Nat → Int) : sm M (fun j => if (j + 1) % s = 0 then G (j + 1) else 0) = sm (M / s) fun j => G ((j + 1) * s) := by
  have e := sm_mult s s0 G M
  rw [PSr.sm_head, PSr.sm_head, Nat.mul_zero, Nat.zero_mod, if_pos rfl] at e
  have e := Int.add_left_cancel e
  rw [e]
  exact sm_congr fun j _ => by rw [Nat.mul_comm]
theorem sgm_sQ {M k : Nat} : ∀ (ps : Ps), (∀ q ∈ ps, 1 ≤ sN q) → sm M (fun j => dv (j + 1) k * eS ps (j + 1)) = sQ (M + 1) ps k
  | [], _ => PSr.sm_null fun i _ => by show _ * (0 : Int) = 0; rw [Int.mul_zero]
  | q :: ps, h => by
    have ih := sgm_sQ (M := M) (k := k) ps fun r hr => h r (List.mem_cons_of_mem _ hr)
    have s0 : 0 < sN q := h q List.mem_cons_self
    have e : sm M (fun j => dv (j + 1) k * eS (q :: ps) (j + 1)) = sm M (fun j => (fun j => q.2 * (if (j + 1) % sN q = 0 then dv (j + 1) k else 0)) j + (fun j => dv (j + 1) k * eS ps (j + 1)) j) := sm_congr fun j _ => by
      show dv (j + 1) k * ((if (j + 1) % sN q = 0 then q.2 else 0) + eS ps (j + 1)) = q.2 * (if (j + 1) % sN q = 0 then dv (j + 1) k else 0) + dv (j + 1) k * eS ps (j + 1)
      rw [Int.mul_add]
      split
      · rw [Int.mul_comm (dv (j + 1) k) q.2]
      · rw [Int.mul_zero, Int.mul_zero]
    rw [e, PSr.sm_add, ih, PSr.sm_mul, mult_sum s0 (fun j => dv j k)]
    show _ = q.2 * sm (nm (sN q) (M + 1)) (fun j => dv ((j + 1) * sN q) k) + sQ (M + 1) ps k
    rw [nm_div s0]
end K38

noncomputable section
namespace K38
open PySem PySem.Spec PyProof.Rows L2 EP FL
open PSr (sm sm_succ sm_congr Sr Ld cv one dv dd)
theorem pow_up : 2 ^ 620 < 2 ^ 1000 := Nat.pow_lt_pow_right (by decide) (by decide)
theorem dv_far {d k : Nat} (h : k < d) : dv d k = 0 := by
  unfold PSr.dv
  split
  · rfl
  · rw [Nat.mod_eq_of_lt h, if_neg (by omega)]
theorem sQ_all {N k : Nat} {ps : Ps} (h : ∀ q ∈ ps, 1 ≤ sN q) (hk : k < N) : sQ N ps k = sm k fun j => dv (j + 1) k * eS ps (j + 1) := by
  obtain ⟨M, rfl⟩ : ∃ M, N = M + 1 := ⟨N - 1, by omega⟩
  rw [← sgm_sQ ps h]
  exact PSr.sm_more (by omega) fun i hi _ => by rw [dv_far (by omega), Int.zero_mul]
theorem PF_same {N N' : Nat} {ps : Ps} (g : Gp ps) : ∀ n, n < N → n < N' → PF N ps n = PF N' ps n := fun n h h' => by
  have s1 := fun q hq => (sN_ok g q hq).1
  have a := PF_ld (N := N) g
  have b := PF_ld (N := N') g
  have z : ∀ M, PF M ps 0 = 1 := fun M => by
    have : ∀ (qs : Ps) (f : Sr), (∀ q ∈ qs, 1 ≤ sN q) → pf M qs f 0 = f 0 := by
      intro qs
      induction qs with
      | nil => intro f _; rfl
      | cons q qs ih =>
        intro f hq
        show pf M qs (mf (sN q) q.2 (nm (sN q) M) f) 0 = f 0
        rw [ih _ fun r hr => hq r (List.mem_cons_of_mem _ hr)]
        have : ∀ i, mf (sN q) q.2 i f 0 = f 0 := by
          intro i
          induction i with
          | zero => rfl
          | succ i ih => show pw _ _ _ 0 = _; rw [pw_zero (Nat.mul_pos (Nat.succ_pos i) (hq q List.mem_cons_self)), ih]
        exact this _
    show pf M ps one 0 = 1
    rw [this ps one s1]; rfl
  refine PSr.ld_uniqN (N := n + 1) (s := fun k => - sQ N ps k) (t := fun k => - sQ N' ps k) (fun k _ => congrFun a k) (fun k _ => congrFun b k) (fun k hk => ?_) (fun _ => by show - sQ N ps 0 = 0; rw [sQ_zero]; rfl) (fun _ => by rw [z, z]) n (Nat.lt_succ_self n)
  show - sQ N ps k = - sQ N' ps k
  rw [sQ_all s1 (by omega), sQ_all s1 (by omega)]
theorem PF_zero {N : Nat} {ps : Ps} (g : Gp ps) (hN : N ≤ 30) : PF N ps 0 = 1 := by
  obtain ⟨s, _, _, _, e⟩ := PF_good hN g
  exact e
theorem PF_rule {N : Nat} {ps : Ps} (g : Gp ps) (k : Nat) : (k : Int) * PF N ps k = sm k fun i => - sQ N ps (i + 1) * PF N ps (k - 1 - i) :=
  ld_at (PF_ld g) (by show - sQ N ps 0 = 0; rw [sQ_zero]; rfl) k
theorem eS_abs : ∀ (ps : Ps) (n : Nat), (∀ q ∈ ps, q.2.natAbs ≤ 60) → (eS ps n).natAbs ≤ 60 * ps.length
  | [], n, _ => by simp [eS]
  | q :: ps, n, h => by
    have a := eS_abs ps n fun r hr => h r (List.mem_cons_of_mem _ hr)
    have b := h q List.mem_cons_self
    show ((if n % sN q = 0 then q.2 else 0) + eS ps n).natAbs ≤ _
    rw [List.length_cons]
    split <;> omega
theorem numbers_of_eq {ps : Ps} (g : Gp ps) {N : Nat} (hN : N ≤ 30) : F_numbers_of [Pd ps, .int N] = some (.list (rowI N (PF N ps))) := by
  have l4 := g.len
  obtain ⟨c3, c4, c5, e⟩ := num_loop hN (.dat (Pd ps)) [] ps (fun _ => 0) .un .un .un (sN_ok g) rfl rfl rfl
  have rp := rep0 (N := N) (by omega)
  have ln : (rowsP ps).length ≤ 100000 := by rw [rowsP_length]; omega
  have kx : ixF (Pd ps) (.int 1) = some (.tuple (rowsP ps)) := by simp [Pd]
  have rw_ : F_row_by_powers [.list (rowI N (ee ps fun _ => 0)), .int N] = some (.list (rowI N (PF N ps))) := by
    rcases Nat.eq_zero_or_pos N with c | c
    · subst c
      have z : F_row_by_powers [.list (rowI 0 (ee ps fun _ => 0)), .int ((0 : Nat) : Int)] = some (.list []) := rowp_zero (.list [])
      exact z
    · obtain ⟨M, rfl⟩ : ∃ M, N = M + 1 := ⟨N - 1, by omega⟩
      refine rowp_eq (ee ps fun _ => 0) (PF (M + 1) ps) (fun i hi => ?_) (by omega) (PF_zero g hN) (fun i hi => Nat.lt_trans (PF_lt hN g (by omega)) pow_up) fun k k1 kM => ?_
      · rcases Nat.eq_zero_or_pos i with z | z
        · subst z; rw [ee_zero]; decide
        · rw [ee_eS ps _ i z, Int.zero_add]
          have := eS_abs ps i fun q hq => (sN_ok g q hq).2.2.2
          omega
      · have sg : ∀ j, sgm (ee ps fun _ => 0) M j = - sQ (M + 1) ps j := fun j => by
          unfold sgm
          rw [← sgm_sQ ps fun q hq => (sN_ok g q hq).1]
          have : (fun j_1 => dv (j_1 + 1) j * ee ps (fun _ => 0) (j_1 + 1)) = fun i => dv (i + 1) j * eS ps (i + 1) := funext fun i => by
            rw [ee_eS ps _ (i + 1) (Nat.succ_pos i), Int.zero_add]
          rw [this]
        rw [PF_rule g k]
        exact sm_congr fun i hi => by rw [sg]
  generalize rowI N (PF N ps) = R1 at *
  generalize rowI N (ee ps fun _ => 0) = R2 at *
  generalize (rowI N fun _ => 0) = R3 at *
  generalize rowsP ps = R5 at *
  generalize Pd ps = P at *
  simp [F_numbers_of, B_numbers_of, rp, kx, ln, e, rw_, -forGo, -ixF]
theorem product_row_eq {ps : Ps} (g : Gp ps) (cp : F_check_product [Pd ps] = some .none) {N : Nat} (hN : N ≤ 30) : F_product_row [Pd ps, .int N] = some (.list (rowI N (PF N ps))) := by
  have cm := check_many_eq (N := N) (m := 3000) (by omega)
  have dg := digits_row (N := N) (f := PF N ps) (by omega) fun i hi => PF_lt hN g (by omega)
  have no := numbers_of_eq g hN
  generalize rowI N (PF N ps) = R1 at *
  generalize Pd ps = P at *
  simp [F_product_row, B_product_row, cp, cm, dg, no]
end K38

noncomputable section
namespace K38
open PySem PySem.Spec PyProof.Rows L2 EP FL
open PSr (sm sm_succ sm_congr Sr Ld cv one dv dd)
theorem is_integer_i (i : Int) : F_is_integer [.int i] = some (.bool true) := rfl
theorem is_within_i (i lo hi : Int) (h : lo ≤ i ∧ i ≤ hi) : F_is_within [.int i, .int lo, .int hi] = some (.bool true) := by
  simp [F_is_within, B_is_within, is_integer_i, h.1, h.2]
theorem is_pair_q (a b : D) : F_is_pair [.tuple [a, b]] = some (.bool true) := rfl
theorem is_step_power_q (q : Int × Int) (h : 1 ≤ q.1 ∧ q.1 ≤ 60 ∧ q.2 ≠ 0 ∧ -60 ≤ q.2 ∧ q.2 ≤ 60) : F_is_step_power [.tuple [.int q.1, .int q.2]] = some (.bool true) := by
  have w1 := is_within_i q.1 1 60 ⟨h.1, h.2.1⟩
  have w2 := is_within_i q.2 (-60) 60 ⟨h.2.2.2.1, h.2.2.2.2⟩
  simp [F_is_step_power, B_is_step_power, is_pair_q, w1, w2, eqF, h.2.2.1]
theorem rising_lc : ∀ (ns : List Int) (ρw : En) (π : Pot) (X : D), ns.Pairwise (· < ·) →
    lcGo (gT 2 (gsC (gN 1) (gsC (gN 2) gsN))) xYes (xOp (cmpF fun i j => decide (i < j)) (xBo 1) (xBo 2)) [.dat X, .un, .un] (zipD (ns.map PyData.int) ((ns.map PyData.int).drop 1)) π = some ((zipD (ns.map PyData.int) ((ns.map PyData.int).drop 1)).map fun _ => .bool true, π)
  | [], ρw, π, X, _ => rfl
  | [a], ρw, π, X, _ => rfl
  | a :: b :: r, ρw, π, X, h => by
    have hab : a < b := (List.pairwise_cons.mp h).1 b List.mem_cons_self
    have ih := rising_lc (b :: r) ρw π X (List.pairwise_cons.mp h).2
    show lcGo _ _ _ _ (.tuple [.int a, .int b] :: zipD ((b :: r).map PyData.int) (((b :: r).map PyData.int).drop 1)) π = _
    unfold lcGo
    have s1 : gT 2 (gsC (gN 1) (gsC (gN 2) gsN)) (.tuple [.int a, .int b]) [.dat X, .un, .un] = some [.dat X, .dat (.int a), .dat (.int b)] := by simp
    have s2 : xOp (cmpF fun i j => decide (i < j)) (xBo 1) (xBo 2) [.dat X, .dat (.int a), .dat (.int b)] π = some (.bool true, π) := by simp [hab]
    rw [s1]
    simp only [Option.bind_some, xYes, if_true]
    rw [s2]
    simp only [Option.bind_some]
    rw [ih]
    rfl
theorem trues (ds : List D) : boolsO (ds.map fun _ => .bool true) = some (ds.map fun _ => true) := boolsO_map (fun _ => true) ds
theorem is_rising_ok (ns : List Int) (hl : ns.length ≤ 100) (h : ns.Pairwise (· < ·)) : F_is_rising [.list (ns.map PyData.int)] = some (.bool true) := by
  have e := rising_lc ns [] [] (.list (ns.map PyData.int)) h
  have zl : (zipD (ns.map PyData.int) ((ns.map PyData.int).drop 1)).length ≤ 100000 := by
    rw [zipD_length, List.length_map, List.length_drop, List.length_map]; omega
  have cd : FL.cutD (ns.map PyData.int) (some 1) none = (ns.map PyData.int).drop 1 := by
    cases ns with
    | nil => simp [FL.cutD]
    | cons a r => exact cut_drop _ 1 (by simp)
  rw [List.drop_one] at e zl cd
  simp [F_is_rising, B_is_rising, cd, e, zl, trues, -lcGo, -FL.cutD, -cmpF]
theorem is_product_ok {ps : Ps} (g : Gp ps) : F_is_product [Pd ps] = some (.bool true) := by
  have l3 := g.len
  have t1 : F_is_tagged [Pd ps, .str "product", .int 2] = some (.bool true) := by simp [Pd, F_is_tagged, B_is_tagged, eqF]
  have kx : ixF (Pd ps) (.int 1) = some (.tuple (rowsP ps)) := by simp [Pd]
  have a1 : ∀ ρ1 ρ2 : FL.Slot, lcGo (gN 2) xYes (xCb F_is_step_power (aCons (xVar 2) aNil)) [ρ1, ρ2, .un] (rowsP ps) [] = some (ps.map fun _ => .bool true, []) := fun ρ1 ρ2 =>
    lc_rowsP (fun _ => .bool true) ps fun q hq => by
      have := g.ok q hq
      have e := is_step_power_q q ⟨by omega, by omega, this.2.2.1, by omega, by omega⟩
      exact ⟨_, rfl, by simp [e]⟩
  have a2 : ∀ ρ1 ρ2 : FL.Slot, lcGo (gN 2) xYes (xOp ixF (xBo 2) (xC (.int 0))) [ρ1, ρ2, .un] (rowsP ps) [] = some (ps.map fun q => .int q.1, []) := fun ρ1 ρ2 =>
    lc_rowsP (fun q => .int q.1) ps fun q hq => ⟨_, rfl, by simp⟩
  have r := is_rising_ok (ps.map Prod.fst) (by rw [List.length_map]; omega) g.ris
  rw [List.map_map] at r
  have r : F_is_rising [.list (ps.map fun q => .int q.1)] = some (.bool true) := r
  have b1 := boolsO_bools (fun _ => true) ps
  have ln : (rowsP ps).length ≤ 100000 := by rw [rowsP_length]; omega
  have l12 : ¬ ((12 : Int) < (rowsP ps).length) := by rw [rowsP_length]; omega
  have l4 : ps.length ≤ 100000 := by omega
  simp [F_is_product, B_is_product, t1, kx, a1, a2, r, b1, ln, l12, l4, -lcGo, -ixF, -fdivF, -modF]
theorem check_product_ok {ps : Ps} (g : Gp ps) : F_check_product [Pd ps] = some .none := by
  simp [F_check_product, B_check_product, is_product_ok g]

end K38

noncomputable section
namespace K38
open PySem PySem.Spec PyProof.Rows L2 EP FL PSr
/-! ### what is drawn -/
theorem lc_gen {α : Type} {tg : Gx} {tt : FL.Tx} {el : Ex} {ρw : En} {π : Pot} (enc : α → D) (p : α → Bool) (k : α → D) : ∀ L : List α, (∀ x ∈ L, ∃ ρ2, tg (enc x) ρw = some ρ2 ∧ tt ρ2 π = some (p x, π) ∧ (p x = true → el ρ2 π = some (k x, π))) → lcGo tg tt el ρw (L.map enc) π = some ((L.filter p).map k, π)
  | [], _ => rfl
  | x :: L, h => by
    have ih := lc_gen enc p k L fun y hy => h y (List.mem_cons_of_mem _ hy)
    obtain ⟨ρ2, e1, e2, e3⟩ := h x List.mem_cons_self
    show lcGo tg tt el ρw (enc x :: L.map enc) π = _
    unfold lcGo
    rw [e1]
    simp only [Option.bind_some]
    rw [e2]
    simp only [Option.bind_some]
    cases hp : p x with
    | true =>
      rw [List.filter_cons_of_pos hp]
      simp only [if_true]
      rw [e3 hp]
      simp only [Option.bind_some]
      rw [ih]
      rfl
    | false =>
      rw [List.filter_cons_of_neg (by simp [hp])]
      simp [ih, -lcGo]
theorem fin_rows (qs : Ps) : (((srt (qs.map Prod.fst)).filter fun s => decide (vl qs s ≠ 0)).map fun s => (.tuple [.int s, .int (vl qs s)] : D)) = rowsP (fin qs) := by
  unfold rowsP fin
  rw [List.map_map]; rfl
theorem kv_keys (qs : Ps) : (kvD qs).map (fun kv => keyV kv.1) = (qs.map Prod.fst).map PyData.int := by
  unfold kvD
  rw [List.map_map, List.map_map]
  rfl
theorem fin_mem {qs : Ps} (n : (qs.map Prod.fst).Nodup) {q : Int × Int} (h : q ∈ fin qs) : q ∈ qs := by
  obtain ⟨s, hs, rfl⟩ := List.mem_map.mp h
  have := of_decide_eq_true (List.mem_filter.mp hs).2
  exact mem_of_vl this
end K38

noncomputable section
namespace K38
open PySem PySem.Spec PyProof.Rows L2 EP FL
variable {ps qs : Ps}
theorem boolsG {α : Type} (f : α → Bool) : ∀ L : List α, boolsO (L.map fun q => .bool (f q)) = some (L.map f)
  | [] => rfl
  | d :: ds => by
    show (boolsO (ds.map fun d => .bool (f d))).map _ = _
    rw [boolsG f ds]; rfl
theorem filterT {α : Type} : ∀ L : List α, L.filter (fun _ => true) = L
  | [] => rfl
  | x :: L => by rw [List.filter_cons_of_pos rfl, filterT L]
/-! ### products together -/
theorem times_go {s0 s1 : FL.Slot} {π : Pot} : ∀ (q2 acc : Ps) (c3 c4 : FL.Slot), acc.length + q2.length < 1000 → ∃ c3' c4' : FL.Slot,
    forGo (gT 2 (gsC (gN 3) (gsC (gN 4) gsN))) B_product_times_b1 (rowsP q2) [s0, s1, .dct (kvD acc), c3, c4] π = some ([s0, s1, .dct (kvD (q2.foldl add2 acc)), c3', c4'], π, .nx)
  | [], acc, c3, c4, _ => ⟨c3, c4, rfl⟩
  | q :: q2, acc, c3, c4, hl => by
    rw [List.length_cons] at hl
    have pl := putP_len acc q.1 (vl acc q.1 + q.2)
    obtain ⟨c3', c4', ih⟩ := times_go (s0 := s0) (s1 := s1) (π := π) q2 (add2 acc q) (.dat (.int q.1)) (.dat (.int q.2)) (by unfold add2; omega)
    refine ⟨c3', c4', ?_⟩
    have vg := val_get acc q.1
    have pk := put_kvD acc q.1 (vl acc q.1 + q.2)
    have kl : (kvD acc).length < 100000 := by unfold kvD; rw [List.length_map]; omega
    have kd : keyD (.int q.1) = some (Sum.inl q.1) := rfl
    have ad : addF (.int (vl acc q.1)) (.int q.2) = some (.int (vl acc q.1 + q.2)) := rfl
    have ef : (q :: q2).foldl add2 acc = q2.foldl add2 (add2 acc q) := rfl
    rw [ef]
    have b : B_product_times_b1 [s0, s1, .dct (kvD acc), .dat (.int q.1), .dat (.int q.2)] π = some ([s0, s1, .dct (kvD (add2 acc q)), .dat (.int q.1), .dat (.int q.2)], π, .nx) := by
      unfold add2
      rw [← pk]
      generalize kvD acc = K1 at *
      generalize vl acc q.1 + q.2 = Y at *
      simp [B_product_times_b1, kd, vg, ad, kl, -addF]
    show forGo _ _ (.tuple [.int q.1, .int q.2] :: rowsP q2) _ π = _
    unfold forGo
    generalize kvD (add2 acc q) = K2 at *
    generalize kvD acc = K1 at *
    generalize kvD (q2.foldl add2 (add2 acc q)) = K3 at *
    simp [b, ih, -forGo]
theorem product_of_eq {qs : Ps} (hl : qs.length ≤ 1000) (h12 : (fin qs).length ≤ 12) (hb : ∀ q ∈ fin qs, q.1 ≤ 60 ∧ -60 ≤ q.2 ∧ q.2 ≤ 60) : F_product_of [dctD (kvD qs)] = some (Pd (fin qs)) := by
  obtain ⟨sp, _⟩ := srt_spec (qs.map Prod.fst)
  have ds : dSl (.dat (dctD (kvD qs))) = some (kvD qs) := dSl_dctD _
  have ik : intK (kvD qs) = some (qs.map Prod.fst) := by
    have g : ∀ l : Ps, intK (kvD l) = some (l.map Prod.fst) := by
      intro l
      induction l with
      | nil => rfl
      | cons q l ih =>
        show (intK (kvD l)).map _ = _
        rw [ih]; rfl
    exact g qs
  have Y := lc_gen (tg := gN 2) (tt := xT (xOp (eqF true) (xEG 0 (xBo 2)) (xC (.int 0)))) (el := xTup (aCons (xVar 2) (aCons (xEG 0 (xBo 2)) aNil))) (ρw := [.dat (dctD (kvD qs)), .un, .un, .un, .un]) (π := []) PyData.int (fun s => decide (vl qs s ≠ 0)) (fun s => .tuple [.int s, .int (vl qs s)]) (srt (qs.map Prod.fst)) fun s hs => by
    have v := val_mem (sp.mem_iff.mp hs)
    have kd : keyD (.int s) = some (Sum.inl s) := rfl
    refine ⟨[.dat (dctD (kvD qs)), .un, .dat (.int s), .un, .un], rfl, ?_, fun _ => ?_⟩
    · have eq := eqF_int true (vl qs s) 0
      generalize dctD (kvD qs) = X at *
      generalize kvD qs = K1 at *
      simp [kd, v, eq, ds]
    · generalize dctD (kvD qs) = X at *
      generalize kvD qs = K1 at *
      simp [kd, v, ds]
  have er : (((srt (qs.map Prod.fst)).filter fun s => decide (vl qs s ≠ 0)).map fun s => (.tuple [.int s, .int (vl qs s)] : D)) = rowsP (fin qs) := by
    unfold rowsP fin
    rw [List.map_map]; rfl
  rw [er] at Y
  have lk : (srt (qs.map Prod.fst)).length ≤ 100000 := by
    rw [sp.length_eq, List.length_map]; omega
  have a1 : ∀ c1 : FL.Slot, lcGo (gT 2 (gsC (gN 2) (gsC (gN 3) gsN))) xYes (xOp (cmpF fun i j => decide (j < i)) (xBo 2) (xC (.int 60))) [.dat (dctD (kvD qs)), c1, .un, .un, .un] (rowsP (fin qs)) [] = some ((fin qs).map (fun _ => .bool false), []) := fun c1 =>
    lc_rowsP (fun _ => .bool false) (fin qs) fun q hq => ⟨_, rfl, by
      have := hb q hq
      have nl : ¬ 60 < q.1 := by omega
      generalize dctD (kvD qs) = X at *
      simp [nl]⟩
  have a2 : ∀ c1 : FL.Slot, lcGo (gT 2 (gsC (gN 3) (gsC (gN 4) gsN))) xYes (xOp (cmpF fun i j => decide (j < i)) (xCb absF (aCons (xBo 4) aNil)) (xC (.int 60))) [.dat (dctD (kvD qs)), c1, .un, .un, .un] (rowsP (fin qs)) [] = some ((fin qs).map (fun _ => .bool false), []) := fun c1 =>
    lc_rowsP (fun _ => .bool false) (fin qs) fun q hq => ⟨_, rfl, by
      have := hb q hq
      have nl : ¬ 60 < (if q.2 < 0 then -q.2 else q.2) := by split <;> omega
      generalize dctD (kvD qs) = X at *
      simp [nl]⟩
  have bo := boolsG (fun _ : Int × Int => false) (fin qs)
  have so := sort_srt (qs.map Prod.fst)
  have rl : (rowsP (fin qs)).length = (fin qs).length := rowsP_length _
  have l1 : (fin qs).length ≤ 100000 := by omega
  have hc : cmpF (fun i j => decide (j < i)) (.int ((fin qs).length : Int)) (.int 12) = some (.bool false) := by
    have : decide ((12 : Int) < ((fin qs).length : Int)) = false := decide_eq_false (by omega)
    show some (PyData.bool (decide ((12 : Int) < ((fin qs).length : Int)))) = _
    rw [this]
  have nt : ((fin qs).map fun _ => false).any id = false := by
    generalize fin qs = L
    induction L with
    | nil => rfl
    | cons q L ih => rw [List.map_cons, List.any_cons, ih]; rfl
  unfold Pd
  generalize dctD (kvD qs) = X at *
  generalize kvD qs = K1 at *
  generalize (fin qs).map (fun _ => (.bool false : D)) = BL at *
  generalize (fin qs).map (fun _ => false) = CL at *
  generalize rowsP (fin qs) = R at *
  generalize (fin qs).length = n at *
  generalize (srt (qs.map Prod.fst)) = SR at *
  simp [F_product_of, B_product_of, ds, ik, so, lk, Y, rl, l1, hc, a1, a2, bo, nt, -lcGo, -cmpF, -xEG]

theorem times_eq {ps qs : Ps} (gp : Gp ps) (gq : Gp qs) (h12 : (fin (qs.foldl add2 ps)).length ≤ 12) (hb : ∀ q ∈ fin (qs.foldl add2 ps), q.1 ≤ 60 ∧ -60 ≤ q.2 ∧ q.2 ≤ 60) : F_product_times [Pd ps, Pd qs] = some (Pd (fin (qs.foldl add2 ps))) := by
  have lp := gp.len
  have lq := gq.len
  have fl := foldl_len qs ps
  have po := product_of_eq (qs := qs.foldl add2 ps) (by omega) h12 hb
  have pr := prI_rows ps
  have kk : kvI (mI (kI ps)) = kvD ps := by rw [mI_dk, kvI_kI, dk_self (ris_nodup gp.ris)]
  obtain ⟨c3, c4, L⟩ := times_go (s0 := .dat (Pd ps)) (s1 := .dat (Pd qs)) (π := []) qs ps .un .un (by omega)
  have k1 : ixF (Pd ps) (.int 1) = some (.tuple (rowsP ps)) := by simp [Pd]
  have k2 : ixF (Pd qs) (.int 1) = some (.tuple (rowsP qs)) := by simp [Pd]
  have c1 := check_product_ok gp
  have c2 := check_product_ok gq
  have rl : (rowsP qs).length ≤ 100000 := by rw [rowsP_length]; omega
  generalize Pd (fin (qs.foldl add2 ps)) = PR at *
  generalize kvD (qs.foldl add2 ps) = K3 at *
  generalize kvD ps = K1 at *
  generalize rowsP ps = R1 at *
  generalize rowsP qs = R2 at *
  generalize Pd ps = X1 at *
  generalize Pd qs = X2 at *
  have h1 : hasScr [.dat X1, .dat X2, .un, .un, .un] = false := rfl
  simp [F_product_times, B_product_times, c1, c2, k1, k2, pr, kk, h1, L, po, rl, -forGo, -ixF]

def both (ps qs : Ps) : Ps := fin (qs.foldl add2 ps)
theorem Gp.cn (g : Gp ps) : Cn ps := ⟨g.ris, fun q hq => (g.ok q hq).2.2.1⟩
theorem both_lin (f : Gp ps) (g : Int → Int) : lin g (both ps qs) = lin g ps + lin g qs := by
  unfold both
  rw [lin_fin g (fold_nodup qs (ris_nodup f.ris)), lin_fold g qs (ris_nodup f.ris)]
theorem both_cn (f : Gp ps) : Cn (both ps qs) := fin_cn (fold_nodup qs (ris_nodup f.ris))
theorem vl_b {B : Int} (hB : 0 ≤ B) (h : ∀ q ∈ ps, -B ≤ q.2 ∧ q.2 ≤ B) (s : Int) : -B ≤ vl ps s ∧ vl ps s ≤ B := by
  by_cases c : vl ps s = 0
  · rw [c]; omega
  · exact h _ (mem_of_vl c)
/-- two lists with few entries, small powers -/
theorem both_g {A B n k : Nat} {S : Int} (f : Gp ps) (f2 : Gp qs) (l1 : ps.length ≤ n) (l2 : qs.length ≤ k) (nk : n + k ≤ 12) (hS : S ≤ 60) (a1 : ∀ q ∈ ps, q.1 ≤ S ∧ -(A : Int) ≤ q.2 ∧ q.2 ≤ A) (a2 : ∀ q ∈ qs, q.1 ≤ S ∧ -(B : Int) ≤ q.2 ∧ q.2 ≤ B) (hab : A + B ≤ 60) :
    Gp (both ps qs) ∧ (both ps qs).length ≤ n + k ∧ ∀ q ∈ both ps qs, q.1 ≤ S ∧ -((A + B : Nat) : Int) ≤ q.2 ∧ q.2 ≤ (A + B : Nat) := by
  have cn := both_cn (qs := qs) f
  have ln : (both ps qs).length ≤ n + k := by
    have := fin_len (qs.foldl add2 ps)
    have := foldl_len qs ps
    unfold both
    omega
  have key : ∀ q ∈ both ps qs, 1 ≤ q.1 ∧ q.1 ≤ S ∧ -((A + B : Nat) : Int) ≤ q.2 ∧ q.2 ≤ (A + B : Nat) := fun q hq => by
    have e1 := cn_mem cn hq
    rw [← lin_dl q.1 (ris_nodup cn.ris), both_lin f, lin_dl q.1 (ris_nodup f.ris), lin_dl q.1 (ris_nodup f2.ris)] at e1
    have := vl_b (B := A) (by omega) (fun q hq => (a1 q hq).2) q.1
    have := vl_b (B := B) (by omega) (fun q hq => (a2 q hq).2) q.1
    rcases fold_keys qs (fin_keys hq) with z | z
    · obtain ⟨x, hx, e⟩ := List.mem_map.mp z
      have := f.ok x hx
      have := a1 x hx
      omega
    · obtain ⟨x, hx, e⟩ := List.mem_map.mp z
      have := f2.ok x hx
      have := a2 x hx
      omega
  refine ⟨⟨by omega, fun q hq => ?_, cn.ris⟩, ln, fun q hq => (key q hq).2⟩
  have := key q hq
  have := cn.nz q hq
  omega
theorem both_times (f : Gp ps) (f2 : Gp qs) (fb : Gp (both ps qs)) : F_product_times [Pd ps, Pd qs] = some (Pd (both ps qs)) := by
  have := fb.len
  exact times_eq f f2 (by unfold both at this; omega) fun q hq => by
    have := fb.ok q hq
    omega
/-! ### the law's own -/
theorem powers_go {s0 s2 : FL.Slot} {π : Pot} : ∀ (q2 acc : Ps) (c3 c4 : FL.Slot), acc.length + q2.length < 1000 → c3.isOwn = false → ∃ c3' c4' : FL.Slot, c3'.isOwn = false ∧
    forGo (gT 2 (gsC (gN 3) (gsC (gN 4) gsN))) B_law_powers_b1 (rowsP q2) [s0, .dct (kvD acc), s2, c3, c4] π = some ([s0, .dct (kvD (q2.foldl add2 acc)), s2, c3', c4'], π, .nx)
  | [], acc, c3, c4, _, h3 => ⟨c3, c4, h3, rfl⟩
  | q :: q2, acc, c3, c4, hl, h3 => by
    rw [List.length_cons] at hl
    have pl := putP_len acc q.1 (vl acc q.1 + q.2)
    obtain ⟨c3', c4', i3, ih⟩ := powers_go (s0 := s0) (s2 := s2) (π := π) q2 (add2 acc q) (.dat (.int q.1)) (.dat (.int q.2)) (by unfold add2; omega) rfl
    refine ⟨c3', c4', i3, ?_⟩
    have vg := val_get acc q.1
    have pk := put_kvD acc q.1 (vl acc q.1 + q.2)
    have kl : (kvD acc).length < 100000 := by unfold kvD; rw [List.length_map]; omega
    have kd : keyD (.int q.1) = some (Sum.inl q.1) := rfl
    have ad : addF (.int (vl acc q.1)) (.int q.2) = some (.int (vl acc q.1 + q.2)) := rfl
    have ef : (q :: q2).foldl add2 acc = q2.foldl add2 (add2 acc q) := rfl
    rw [ef]
    have b : B_law_powers_b1 [s0, .dct (kvD acc), s2, .dat (.int q.1), .dat (.int q.2)] π = some ([s0, .dct (kvD (add2 acc q)), s2, .dat (.int q.1), .dat (.int q.2)], π, .nx) := by
      unfold add2
      rw [← pk]
      generalize kvD acc = K1 at *
      generalize vl acc q.1 + q.2 = Y at *
      simp [B_law_powers_b1, kd, vg, ad, kl, -addF]
    show forGo _ _ (.tuple [.int q.1, .int q.2] :: rowsP q2) _ π = _
    unfold forGo
    generalize kvD (add2 acc q) = K2 at *
    generalize kvD acc = K1 at *
    generalize kvD (q2.foldl add2 (add2 acc q)) = K3 at *
    simp [b, ih, -forGo]
/-! ### powers of products, steps times d -/
end K38

noncomputable section
namespace K38
open PySem PySem.Spec PyProof.Rows L2 EP FL PSr
variable {ps qs : Ps} {N : Nat}
/-! ### rows of products together -/
def tS (N k : Nat) : Int → Int := fun s => sm (nm s.toNat N) fun j => dv ((j + 1) * s.toNat) k
theorem sQ_lin (N k : Nat) : ∀ ps : Ps, sQ N ps k = lin (tS N k) ps
  | [] => rfl
  | q :: ps => by
    rw [lin_cons, ← sQ_lin N k ps]
    show q.2 * tS N k q.1 + sQ N ps k = _
    rw [Int.mul_comm]
theorem neg_zero_sQ (N : Nat) (ps : Ps) : (fun k => - sQ N ps k) 0 = 0 := by
  show - sQ N ps 0 = 0
  rw [sQ_zero]; rfl
theorem cv_zero (f g : Sr) : cv f g 0 = f 0 * g 0 := by
  show sm 1 _ = _
  rw [sm_succ, sm_zero]; simp
theorem PF_both (hN : N ≤ 30) (f : Gp ps) (f2 : Gp qs) (fb : Gp (both ps qs)) : PF N (both ps qs) = cv (PF N ps) (PF N qs) := by
  have h1 := PF_ld (N := N) fb
  have h2 := ld_cv (PF_ld (N := N) f) (PF_ld (N := N) f2)
  have e : ∀ k, (fun n => - sQ N ps n + - sQ N qs n) k = (fun k => - sQ N (both ps qs) k) k := fun k => by
    show - sQ N ps k + - sQ N qs k = - sQ N (both ps qs) k
    rw [sQ_lin, sQ_lin, sQ_lin, both_lin f]; omega
  refine ld_uniq h1 (ld_ext h2 e) (neg_zero_sQ N _) ?_
  rw [cv_zero, PF_zero fb hN, PF_zero f hN, PF_zero f2 hN]; rfl
end K38

noncomputable section
namespace K38.W
open PySem PySem.Spec PyProof.Rows L2 EP FL
theorem pot_true (ns : List Int) (hl : ns.length ≤ 63) : ∃ p0 p1, F_law_pot ns (.int 0) = some (.list [.int p0, .int p1]) ∧ 0 ≤ p0 := by
  have m1 : ∀ x : Int, mulOk (x % 2147483549 + 75) 27 = true := fun x => by
    refine mulOk_of (a := 40) (b := 40) ?_ (by decide)
    have := Int.emod_nonneg x (show (2147483549 : Int) ≠ 0 by decide)
    have := Int.emod_lt_of_pos x (show (0 : Int) < 2147483549 by decide)
    omega
  have m2 : mulOk 2 0 = true := cdec_of (by decide)
  have m3 : mulOk 131 0 = true := cdec_of (by decide)
  have d1 : ∀ x : Int, divOk x 2147483549 = true := fun x => divOk_of (by decide) (by decide)
  have d2 : ∀ x : Int, divOk x 2147483477 = true := fun x => divOk_of (by decide) (by decide)
  have pw : powF (.int 10) (.int 18) = some (.int 1000000000000000000) := by
    have c : powOk 10 18 = true := cdec_of (by decide +kernel)
    simp [powF, c]
  have pw3 : powF (.int 3) (.int 3) = some (.int 27) := by
    have c : powOk 3 3 = true := cdec_of (by decide +kernel)
    simp [powF, c]
  have m4 : mulOk 150 27 = true := cdec_of (by decide)
  cases ns with
  | nil =>
    simp [F_law_pot, B_law_pot, m1, m2, m3, m4, d1, d2, pw, pw3, mulF]
  | cons x r =>
    have e : (0 : Int) < (r.length : Int) + 1 := by omega
    refine ⟨if (if x < 0 then -x else x) - 1000000000000000000 > 0 then (if x < 0 then -x else x) - 1000000000000000000 else 0, ?_⟩
    simp [F_law_pot, B_law_pot, m1, m2, m3, d1, d2, pw, pw3, mulF, e]
    split <;> omega
theorem pick_ok {π : Pot} (h : PotOk π) {xs : List D} (h0 : 0 < xs.length) (h1 : xs.length ≤ 100000) : ∃ (j : Nat) (x : D) (π' : Pot), xs[j]? = some x ∧ F_law_pick π [.list xs] = some (x, π') ∧ PotOk π' := by
  obtain ⟨d, π', e, d0, d1, p⟩ := draw_ok h (show (0 : Int) < (xs.length : Int) by omega) (by omega)
  have e2 : atI xs d = xs[d.toNat]? := atI_of (by omega)
  have lt : d.toNat < xs.length := by omega
  refine ⟨d.toNat, xs[d.toNat], π', List.getElem?_eq_getElem lt, ?_, p⟩
  simp [F_law_pick, B_law_pick, e, e2, lt]
def S9 : List Int := [1, 2, 3, 4, 5, 6, 7, 9, 12]
/-- weights that a form may have -/
structure Gw (ws : List Int) : Prop where
  l0 : 1 ≤ ws.length
  l1 : ws.length ≤ 2
  ok : ∀ w ∈ ws, w ∈ S9
  up : ws.Pairwise (· ≤ ·)
theorem weights_b1 (a b : FL.Slot) (ns : List Int) (c4 : FL.Slot) (π : Pot) (h : PotOk π) (hl : ns.length < 50) : ∃ (x : Int) (π' : Pot),
    B_law_weights_b1 [.pot, a, b, .own (ns.map PyData.int), c4] π = some ([.pot, a, b, .own ((ns ++ [x]).map PyData.int), c4], π', .nx) ∧ PotOk π' ∧ x ∈ S9 := by
  obtain ⟨j, x, π1, e1, e2, p1⟩ := pick_ok h (xs := [.int 1, .int 1, .int 1, .int 2, .int 2, .int 3, .int 4, .int 5, .int 6, .int 7, .int 9, .int 12]) (by decide) (by decide)
  obtain ⟨xi, rfl, hx⟩ : ∃ xi : Int, x = .int xi ∧ xi ∈ S9 := by
    have := List.mem_of_getElem? e1
    simp only [List.mem_cons, List.not_mem_nil, or_false] at this
    rcases this with rfl | rfl | rfl | rfl | rfl | rfl | rfl | rfl | rfl | rfl | rfl | rfl <;> exact ⟨_, rfl, by decide⟩
  have l2 : ns.length < 100000 := by omega
  refine ⟨xi, π1, ?_, p1, hx⟩
  simp [B_law_weights_b1, e2, l2]
theorem law_weights_ok {π : Pot} (h : PotOk π) : ∃ (ws : List Int) (π' : Pot), F_law_weights π [.int 1, .int 2] = some (.tuple (ws.map PyData.int), π') ∧ PotOk π' ∧ Gw ws := by
  obtain ⟨d, π1, e, d0, d1, p1⟩ := draw_ok h (m := 2) (by decide) (by decide)
  obtain ⟨n, rfl⟩ := Int.eq_ofNat_of_zero_le d0
  have L := forGo_inv (tg := gN 4) (b := B_law_weights_b1) (fun i ρ π => ∃ (ns : List Int) (c4 : FL.Slot), ρ = [.pot, .dat (.int 1), .dat (.int 2), .own (ns.map PyData.int), c4] ∧ PotOk π ∧ ns.length = i ∧ ∀ x ∈ ns, x ∈ S9) (rg 0 (n + 1)) (by
      rintro i d ρ π hd ⟨ns, c4, rfl, hp, hl, hr⟩
      obtain ⟨li, rfl⟩ := rg_get hd
      obtain ⟨x, π', e, hp', hx⟩ := weights_b1 (.dat (.int 1)) (.dat (.int 2)) ns (.dat (.int (0 + (i : Int)))) π hp (by omega)
      refine ⟨_, _, π', rfl, .inl e, ns ++ [x], _, rfl, hp', by simp [hl], fun y hy => ?_⟩
      rcases List.mem_append.mp hy with hy | hy
      · exact hr y hy
      · rw [List.mem_singleton] at hy; subst hy; exact hx) (ρ := [.pot, .dat (.int 1), .dat (.int 2), .own [], .un]) (π := π1) ⟨[], .un, rfl, p1, rfl, by simp⟩
  obtain ⟨ρ', π2, e2, ns, c4, hρ, p2, hl, hr⟩ := L
  subst hρ
  rw [rg_length] at hl
  obtain ⟨sp, ss⟩ := sortI_spec ns
  have sl : (sortI ns).length = ns.length := sp.length_eq
  have hn' : rgOk (1 + (n : Int)) = true := rgOk_mk (by omega) (by omega)
  have hm : (1 + (n : Int)).toNat = n + 1 := by omega
  have so := sortXF_l ns
  refine ⟨sortI ns, π2, ?_, p2, by omega, by omega, fun q hq => hr q (sp.mem_iff.mp hq), ss⟩
  simp [F_law_weights, B_law_weights, e, hn', hm, e2, so, -forGo]
end K38.W

noncomputable section
namespace K38.W
open PySem PySem.Spec PyProof.Rows L2 EP FL
open PSr
/-! sums of squares, one weight after the other -/
def tm (w : Nat) (f : Nat → Int) (n i : Nat) : Int := if w * (i + 1) * (i + 1) ≤ n then f (n - w * (i + 1) * (i + 1)) else 0
/-- after k squares -/
def J (w : Nat) (f : Nat → Int) (k n : Nat) : Int := f n + 2 * sm k (tm w f n)
def TH (w : Nat) (f : Nat → Int) (n : Nat) : Int := J w f (n + 1) n
theorem sq_le {w i k : Nat} (h : k ≤ i) : w * (k + 1) * (k + 1) ≤ w * (i + 1) * (i + 1) := Nat.mul_le_mul (Nat.mul_le_mul_left w (by omega)) (by omega)
theorem J_all {w : Nat} {f : Nat → Int} {k n : Nat} (w0 : 0 < w) (h : n < w * (k + 1) * (k + 1)) : J w f k n = TH w f n := by
  have z : ∀ i, k ≤ i → tm w f n i = 0 := fun i hi => by
    unfold tm
    rw [if_neg]
    have := sq_le (w := w) hi
    omega
  have z2 : ∀ i, n + 1 ≤ i → tm w f n i = 0 := fun i hi => by
    unfold tm
    rw [if_neg]
    have h1 : i + 1 ≤ w * (i + 1) * (i + 1) := Nat.le_trans (Nat.le_mul_of_pos_left _ (show 0 < w * (i + 1) from Nat.mul_pos w0 (by omega))) (Nat.le_refl _)
    omega
  unfold TH J
  congr 2
  rcases Nat.le_total k (n + 1) with c | c
  · exact (sm_more c fun i hi _ => z i hi).symm
  · exact sm_more c fun i hi _ => z2 i hi
theorem J_succ (w : Nat) (f : Nat → Int) (k n : Nat) : J w f (k + 1) n = J w f k n + 2 * tm w f n k := by
  unfold J
  rw [sm_succ]; omega
/-- one turn of the program's inner loop -/
theorem wj_inner (w : Nat) (N : Nat) (f : Nat → Int) (k : Nat) (c5 : FL.Slot) (hv : w * (k + 1) * (k + 1) < N) (hN : N ≤ 3001) (M : Nat) (hM : ∀ n, n < N → (f n).natAbs ≤ M) (M2 : M < 2 ^ 200) (s1 s3 : FL.Slot) (π : Pot) : ∃ c5' : FL.Slot,
    forGo (gN 5) B_weight_joined_b1 (rg (w * (k + 1) * (k + 1) : Nat) (N - w * (k + 1) * (k + 1))) [.arg (rowI N f), s1, .own (rowI N (J w f k)), s3, .dat (.int (w * (k + 1) * (k + 1) : Nat)), c5] π = some ([.arg (rowI N f), s1, .own (rowI N (J w f (k + 1))), s3, .dat (.int (w * (k + 1) * (k + 1) : Nat)), c5'], π, .nx) := by
  generalize hV : w * (k + 1) * (k + 1) = V at *
  have L := forGo_inv (tg := gN 5) (b := B_weight_joined_b1) (fun i ρ π2 => ∃ c5 : FL.Slot, ρ = [.arg (rowI N f), s1, .own (rowI N fun n => if n < V + i then J w f (k + 1) n else J w f k n), s3, .dat (.int (V : Nat)), c5] ∧ π2 = π) (rg (V : Nat) (N - V)) (by
    rintro i d ρ π2 hd ⟨c5, rfl, rfl⟩
    obtain ⟨li, rfl⟩ := rg_get hd
    have e1 : atI (rowI N fun n => if n < V + i then J w f (k + 1) n else J w f k n) ((V : Int) + i) = some (.int (J w f k (V + i))) := by
      rw [rowI_at (by omega) (by omega)]
      rw [show ((V : Int) + i).toNat = V + i by omega, if_neg (by omega)]
    have e2 : atI (rowI N f) ((i : Nat) : Int) = some (.int (f i)) := by
      rw [rowI_at (by omega) (by omega)]; rfl
    have e3 : (V : Int) + i - V = ((i : Nat) : Int) := by omega
    have e4 : ixN (rowI N fun n => if n < V + i then J w f (k + 1) n else J w f k n).length ((V : Int) + i) = some (V + i) := by
      unfold ixN
      have : (rowI N fun n => if n < V + i then J w f (k + 1) n else J w f k n).length = N := by simp [rowI]
      rw [this, if_pos (by omega), if_pos (by omega)]
      congr 1
    have m1 : mulOk 2 (f i) = true := mulOk_of (a := 10) (b := 200) (by decide) (Nat.lt_of_le_of_lt (hM i (by omega)) M2)
    refine ⟨_, [.arg (rowI N f), s1, .own ((rowI N fun n => if n < V + i then J w f (k + 1) n else J w f k n).set (V + i) (.int (J w f k (V + i) + 2 * f i))), s3, .dat (.int (V : Nat)), .dat (.int ((V : Int) + i))], π2, rfl, .inl ?_, .dat (.int ((V : Int) + i)), ?_, rfl⟩
    · generalize hR : (rowI N fun n => if n < V + i then J w f (k + 1) n else J w f k n) = R at *
      generalize hR2 : rowI N f = R2 at *
      simp [B_weight_joined_b1, e1, e2, e3, e4, mulF_of m1, -atI, -ixN]
    · rw [rowI_set]
      have hrow : (rowI N fun n => if n = V + i then J w f k (V + i) + 2 * f i else if n < V + i then J w f (k + 1) n else J w f k n) = rowI N fun n => if n < V + (i + 1) then J w f (k + 1) n else J w f k n := rowI_congr fun n hn => by
        by_cases c : n = V + i
        · subst c
          rw [if_pos rfl, if_pos (by omega), J_succ]
          unfold tm
          rw [hV, if_pos (by omega), show V + i - V = i by omega]
        · rw [if_neg c]
          by_cases c2 : n < V + i
          · rw [if_pos c2, if_pos (by omega)]
          · rw [if_neg c2, if_neg (by omega)]
      rw [hrow]) (ρ := [.arg (rowI N f), s1, .own (rowI N (J w f k)), s3, .dat (.int (V : Nat)), c5]) (π := π) ⟨c5, by
        have hrow : (rowI N fun n => if n < V + 0 then J w f (k + 1) n else J w f k n) = rowI N (J w f k) := rowI_congr fun n hn => by
          by_cases c2 : n < V + 0
          · rw [if_pos c2, J_succ]
            unfold tm
            rw [hV, if_neg (by omega)]; omega
          · rw [if_neg c2]
        rw [hrow], rfl⟩
  obtain ⟨ρ', π', e, c5', rfl, rfl⟩ := L
  rw [rg_length] at e
  refine ⟨c5', ?_⟩
  rw [e]
  have hrow : (rowI N fun n => if n < V + (N - V) then J w f (k + 1) n else J w f k n) = rowI N (J w f (k + 1)) := rowI_congr fun n hn => by
    rw [if_pos (by omega)]
  rw [hrow]
theorem wj_loop (w : Nat) (w0 : 0 < w) (w1 : w ≤ 12) (N : Nat) (f : Nat → Int) (hN : N ≤ 3001) (M : Nat) (hM : ∀ n, n < N → (f n).natAbs ≤ M) (M2 : M < 2 ^ 200) (π : Pot) : ∀ (F k : Nat) (c4 c5 : FL.Slot), N < F + k → k ≤ N → ∃ c3 c4' c5' : FL.Slot,
    whGo B_weight_joined_c1 B_weight_joined_w1 F [.arg (rowI N f), .dat (.int w), .own (rowI N (J w f k)), .dat (.int ((k : Int) + 1)), c4, c5] π = some ([.arg (rowI N f), .dat (.int w), .own (rowI N (TH w f)), c3, c4', c5'], π, .nx)
  | 0, k, c4, c5, h, h2 => by omega
  | F + 1, k, c4, c5, h, h2 => by
    have m1 : mulOk (w : Int) ((k : Int) + 1) = true := mulOk_of (a := 20) (b := 20) (by omega) (by omega)
    have b1 : w * (k + 1) ≤ 12 * 3003 := Nat.mul_le_mul w1 (by omega)
    have m2 : mulOk ((w : Int) * ((k : Int) + 1)) ((k : Int) + 1) = true := by
      rw [show (w : Int) * ((k : Int) + 1) = ((w * (k + 1) : Nat) : Int) by push_cast; rfl]
      exact mulOk_of (a := 20) (b := 20) (by rw [Int.natAbs_natCast]; exact Nat.lt_of_le_of_lt b1 (by decide)) (by omega)
    have ev : (w : Int) * ((k : Int) + 1) * ((k : Int) + 1) = ((w * (k + 1) * (k + 1) : Nat) : Int) := by push_cast; rfl
    have ln : (rowI N f).length = N := by simp [rowI]
    by_cases c : w * (k + 1) * (k + 1) < N
    · have hc : B_weight_joined_c1 [.arg (rowI N f), .dat (.int w), .own (rowI N (J w f k)), .dat (.int ((k : Int) + 1)), c4, c5] π = some (true, π) := by
        generalize hV : w * (k + 1) * (k + 1) = V at *
        simp [B_weight_joined_c1, mulF_of m1, mulF_of m2, ev, ln]
        omega
      obtain ⟨c5', e⟩ := wj_inner w N f k c5 c hN M hM M2 (.dat (.int w)) (.dat (.int ((k : Int) + 1))) π
      have kk : k + 1 ≤ N := by
        have : k + 1 ≤ w * (k + 1) * (k + 1) := Nat.le_mul_of_pos_left _ (Nat.mul_pos w0 (by omega))
        omega
      have hw : B_weight_joined_w1 [.arg (rowI N f), .dat (.int w), .own (rowI N (J w f k)), .dat (.int ((k : Int) + 1)), c4, c5] π = some ([.arg (rowI N f), .dat (.int w), .own (rowI N (J w f (k + 1))), .dat (.int (((k + 1 : Nat) : Int) + 1)), .dat (.int (w * (k + 1) * (k + 1) : Nat)), c5'], π, .nx) := by
        generalize hV : w * (k + 1) * (k + 1) = V at *
        have r1 : rgOk (V : Int) = true := rgOk_mk (by omega) (by omega)
        have r2 : rgOk (N : Int) = true := rgOk_mk (by omega) (by omega)
        have tn : ((N : Int) - (V : Int)).toNat = N - V := by omega
        simp [B_weight_joined_w1, mulF_of m1, mulF_of m2, ev, ln, r1, r2, tn, e, -forGo]
      rw [wh_yes hc hw]
      exact wj_loop w w0 w1 N f hN M hM M2 π F (k + 1) _ c5' (by omega) (by omega)
    · have hc : B_weight_joined_c1 [.arg (rowI N f), .dat (.int w), .own (rowI N (J w f k)), .dat (.int ((k : Int) + 1)), c4, c5] π = some (false, π) := by
        generalize hV : w * (k + 1) * (k + 1) = V at *
        simp [B_weight_joined_c1, mulF_of m1, mulF_of m2, ev, ln]
        omega
      rw [wh_no hc]
      have hrow : rowI N (J w f k) = rowI N (TH w f) := rowI_congr fun n hn => J_all w0 (by omega)
      rw [hrow]
      exact ⟨_, _, _, rfl⟩
theorem weight_joined_eq (w : Nat) (w0 : 0 < w) (w1 : w ≤ 12) (N : Nat) (f : Nat → Int) (hN : N ≤ 3001) (M : Nat) (hM : ∀ n, n < N → (f n).natAbs ≤ M) (M2 : M < 2 ^ 200) : F_weight_joined [.list (rowI N f), .int w] = some (.list (rowI N (TH w f))) := by
  obtain ⟨c3, c4, c5, e⟩ := wj_loop w w0 w1 N f hN M hM M2 [] 10000000 0 .un .un (by omega) (by omega)
  have hrow : rowI N (J w f 0) = rowI N f := rowI_congr fun n hn => by unfold J; simp
  rw [hrow] at e
  have e : whGo B_weight_joined_c1 B_weight_joined_w1 10000000 [.arg (rowI N f), .dat (.int w), .own (rowI N f), .dat (.int 1), .un, .un] [] = _ := e
  simp [F_weight_joined, B_weight_joined, e]
end K38.W

noncomputable section
namespace K38.W
open PySem PySem.Spec PyProof.Rows L2 EP FL
open PSr
def wsD (ws : List Nat) : List D := ws.map fun (w : Nat) => PyData.int (w : Int)
theorem flat_rep : ∀ N : Nat, (List.replicate N [PyData.int 0]).flatten = List.replicate N (PyData.int 0)
  | 0 => rfl
  | n + 1 => by rw [List.replicate_succ, List.flatten_cons, flat_rep n]; rfl
/-- the ways of a form -/
def ws0 (n : Nat) : Int := if n = 0 then 1 else 0
def WF (ws : List Nat) : Nat → Int := ws.foldl (fun f w => TH w f) ws0
theorem sm_bound (n : Nat) (f : Nat → Int) (M : Nat) (h : ∀ i, i < n → (f i).natAbs ≤ M) : (sm n f).natAbs ≤ n * M := by
  induction n with
  | zero => simp
  | succ n ih =>
    have := ih fun i hi => h i (by omega)
    have := h n (by omega)
    rw [sm_succ, Nat.succ_mul]; omega
theorem TH_bound {w : Nat} {f : Nat → Int} {M N : Nat} (hM : ∀ n, n < N → (f n).natAbs ≤ M) {n : Nat} (hn : n < N) : (TH w f n).natAbs ≤ (2 * N + 1) * M := by
  have h := sm_bound (n + 1) (tm w f n) M fun i hi => by
    unfold tm
    split
    · exact hM _ (by omega)
    · simp
  have h2 := hM n hn
  have h3 : (n + 1) * M ≤ N * M := Nat.mul_le_mul_right M (by omega)
  have h4 : (2 * N + 1) * M = 2 * (N * M) + M := by rw [Nat.add_mul, Nat.one_mul, Nat.mul_assoc]
  unfold TH J
  omega
theorem wf_bound (N : Nat) : ∀ (ws : List Nat) (f : Nat → Int) (M : Nat), (∀ n, n < N → (f n).natAbs ≤ M) → ∀ n, n < N → ((ws.foldl (fun f w => TH w f) f) n).natAbs ≤ (2 * N + 1) ^ ws.length * M
  | [], f, M, h, n, hn => by simpa using h n hn
  | w :: ws, f, M, h, n, hn => by
    have := wf_bound N ws (TH w f) ((2 * N + 1) * M) (fun n hn => TH_bound h hn) n hn
    rw [List.foldl_cons, List.length_cons, Nat.pow_succ, Nat.mul_assoc]
    exact this
/-- the program's row -/
theorem row_loop (N : Nat) (hN : N ≤ 100) (X : FL.Slot) (π : Pot) : ∀ (ws : List Nat) (f : Nat → Int) (M : Nat) (c3 : FL.Slot), (∀ w ∈ ws, 0 < w ∧ w ≤ 12) → (∀ n, n < N → (f n).natAbs ≤ M) → M < 2 ^ (10 * (15 - ws.length)) → ws.length ≤ 8 → ∃ c3' : FL.Slot,
    isScr c3 = false → isScr X = false →
    forGo (gN 3) B_row_of_ways_b1 (wsD ws) [X, .dat (.int N), .own (rowI N f), c3] π = some ([X, .dat (.int N), .own (rowI N (ws.foldl (fun f w => TH w f) f)), c3'], π, .nx)
  | [], f, M, c3, _, _, _, _ => ⟨c3, fun _ _ => rfl⟩
  | w :: ws, f, M, c3, h, hM, M2, hl => by
    have hw := h w List.mem_cons_self
    rw [List.length_cons] at M2 hl
    have up : 2 ^ (10 * (15 - (ws.length + 1))) ≤ 2 ^ 200 := Nat.pow_le_pow_right (by decide) (by omega)
    have e := weight_joined_eq w hw.1 hw.2 N f (by omega) M hM (by omega)
    have M3 : (2 * N + 1) * M < 2 ^ (10 * (15 - ws.length)) := by
      have : 2 ^ (10 * (15 - ws.length)) = 2 ^ 10 * 2 ^ (10 * (15 - (ws.length + 1))) := by rw [← Nat.pow_add]; congr 1; omega
      rw [this]
      have h1 : (2 * N + 1) * M ≤ 2 ^ 10 * M := Nat.mul_le_mul_right M (by omega)
      have h2 : 2 ^ 10 * M < 2 ^ 10 * 2 ^ (10 * (15 - (ws.length + 1))) := Nat.mul_lt_mul_of_pos_left M2 (by decide)
      omega
    obtain ⟨c3', e2⟩ := row_loop N hN X π ws (TH w f) ((2 * N + 1) * M) (.dat (.int w)) (fun x hx => h x (List.mem_cons_of_mem _ hx)) (fun n hn => TH_bound hM hn) M3 (by omega)
    refine ⟨c3', fun s1 s2 => ?_⟩
    have b : B_row_of_ways_b1 [X, .dat (.int N), .own (rowI N f), .dat (.int w)] π = some ([X, .dat (.int N), .own (rowI N (TH w f)), .dat (.int w)], π, .nx) := by
      simp [B_row_of_ways_b1, e, s2]
    show forGo _ _ (.int (w : Int) :: wsD ws) _ _ = _
    unfold forGo
    have g : gN 3 (.int (w : Int)) [X, .dat (.int N), .own (rowI N f), c3] = some [X, .dat (.int N), .own (rowI N f), .dat (.int w)] := by simp
    rw [g]
    simp only [Option.bind_some]
    rw [b]
    exact e2 rfl s2
theorem first_row (N : Nat) (hN : 1 ≤ N) : (PyData.int 1 :: List.replicate N (PyData.int 0)).take N = rowI N ws0 := by
  refine rowI_ext (by rw [List.length_take]; simp) fun i hi => ?_
  rw [List.getElem?_take_of_lt hi]
  cases i with
  | zero => rfl
  | succ i =>
    rw [List.getElem?_cons_succ, List.getElem?_replicate, if_pos (by omega)]
    rfl
theorem row_of_ways_eq (N : Nat) (hN : N ≤ 100) (ws : List Nat) (h : ∀ w ∈ ws, 0 < w ∧ w ≤ 12) (hl : ws.length ≤ 8) : F_row_of_ways [.tuple (wsD ws), .int N] = some (.list (rowI N (WF ws))) := by
  have b0 : ∀ n, n < N → (ws0 n).natAbs ≤ 1 := fun n _ => by unfold ws0; split <;> simp
  obtain ⟨c3', e⟩ := row_loop N hN (.dat (.tuple (wsD ws))) [] ws ws0 1 .un h b0 (by
    have : 2 ^ 1 ≤ 2 ^ (10 * (15 - ws.length)) := Nat.pow_le_pow_right (by decide) (by omega)
    omega) hl
  have e := e rfl rfl
  have rl : (N : Int).toNat = N := by omega
  have cd : FL.cutD (PyData.int 1 :: List.replicate N (PyData.int 0)) none (some (N : Int)) = rowI N ws0 := by
    rcases Nat.eq_zero_or_pos N with rfl | p
    · simp [FL.cutD, rowI]
    · rw [cut_take _ _ (by simp), first_row N p]
  have n1 : (N : Int) ≤ 100000 := by omega
  have n2 : -100000 ≤ (N : Int) := by omega
  have n3 : N ≤ 100000 := by omega
  have n4 : 1 + N ≤ 100000 := by omega
  have n5 : N + 1 ≤ 100000 := by omega
  have fl := flat_rep N
  have mr : mulF (.list [.int 0]) (.int N) = some (.list (List.replicate N (PyData.int 0))) := by
    have e0 : mulF (.list [.int 0]) (.int N) = if (N : Int) ≤ 100000 ∧ -100000 ≤ (N : Int) ∧ 1 * (N : Int).toNat ≤ 100000 then some (.list (List.replicate (N : Int).toNat [PyData.int 0]).flatten) else none := rfl
    rw [e0, if_pos ⟨n1, n2, by omega⟩, rl, fl]
  have ar : addF (.list [.int 1]) (.list (List.replicate N (PyData.int 0))) = some (.list (PyData.int 1 :: List.replicate N (PyData.int 0))) := by
    have e0 : addF (.list [.int 1]) (.list (List.replicate N (PyData.int 0))) = if 1 + (List.replicate N (PyData.int 0)).length ≤ 100000 then some (.list ([.int 1] ++ List.replicate N (PyData.int 0))) else none := rfl
    rw [e0, List.length_replicate, if_pos n4]; rfl
  unfold WF
  generalize hL : (PyData.int 1 :: List.replicate N (PyData.int 0)) = L at *
  generalize hL2 : List.replicate N (PyData.int 0) = L2 at *
  generalize hW : (wsD ws) = W at *
  simp [F_row_of_ways, B_row_of_ways, mr, ar, cd, e, -forGo, -FL.cutD, -addF]
end K38.W

noncomputable section
namespace K38.W
open PySem PySem.Spec PyProof.Rows L2 EP FL
open PSr
theorem most_loop (w n : Nat) (w0 : 0 < w) (w1 : w ≤ 12) (hn : n ≤ 100) (π : Pot) : ∀ (F k : Nat), n < F + k → k ≤ n → (∀ i, i < k → w * (i + 1) * (i + 1) ≤ n) → ∃ m : Nat,
    whGo B_law_most_c1 B_law_most_w1 F [.dat (.int w), .dat (.int n), .dat (.int k)] π = some ([.dat (.int w), .dat (.int n), .dat (.int m)], π, .nx) ∧ m ≤ n ∧ (∀ i, i < m → w * (i + 1) * (i + 1) ≤ n) ∧ n < w * (m + 1) * (m + 1)
  | 0, k, h, h2, _ => by omega
  | F + 1, k, h, h2, hk => by
    have m1 : mulOk (w : Int) ((k : Int) + 1) = true := mulOk_of (a := 20) (b := 20) (by omega) (by omega)
    have b1 : w * (k + 1) ≤ 12 * 101 := Nat.mul_le_mul w1 (by omega)
    have m2 : mulOk ((w : Int) * ((k : Int) + 1)) ((k : Int) + 1) = true := by
      rw [show (w : Int) * ((k : Int) + 1) = ((w * (k + 1) : Nat) : Int) by push_cast; rfl]
      exact mulOk_of (a := 20) (b := 20) (by rw [Int.natAbs_natCast]; exact Nat.lt_of_le_of_lt b1 (by decide)) (by omega)
    have ev : (w : Int) * ((k : Int) + 1) * ((k : Int) + 1) = ((w * (k + 1) * (k + 1) : Nat) : Int) := by push_cast; rfl
    by_cases c : w * (k + 1) * (k + 1) ≤ n
    · have kk : k + 1 ≤ n := by
        have : k + 1 ≤ w * (k + 1) * (k + 1) := Nat.le_mul_of_pos_left _ (Nat.mul_pos w0 (by omega))
        omega
      have hc : B_law_most_c1 [.dat (.int w), .dat (.int n), .dat (.int k)] π = some (true, π) := by
        generalize w * (k + 1) * (k + 1) = V at *
        simp [B_law_most_c1, mulF_of m1, mulF_of m2, ev]
        omega
      have hw : B_law_most_w1 [.dat (.int w), .dat (.int n), .dat (.int k)] π = some ([.dat (.int w), .dat (.int n), .dat (.int ((k + 1 : Nat) : Int))], π, .nx) := by
        simp [B_law_most_w1]
      rw [wh_yes hc hw]
      exact most_loop w n w0 w1 hn π F (k + 1) (by omega) kk fun i hi => by
        rcases Nat.lt_succ_iff_lt_or_eq.mp hi with h | rfl
        · exact hk i h
        · exact c
    · have hc : B_law_most_c1 [.dat (.int w), .dat (.int n), .dat (.int k)] π = some (false, π) := by
        generalize w * (k + 1) * (k + 1) = V at *
        simp [B_law_most_c1, mulF_of m1, mulF_of m2, ev]
        omega
      rw [wh_no hc]
      exact ⟨k, rfl, h2, hk, by omega⟩
theorem most_eq (w n : Nat) (w0 : 0 < w) (w1 : w ≤ 12) (hn : n ≤ 100) : ∃ m : Nat, F_law_most [.int w, .int n] = some (.int m) ∧ m ≤ n ∧ (∀ i, i < m → w * (i + 1) * (i + 1) ≤ n) ∧ n < w * (m + 1) * (m + 1) := by
  obtain ⟨m, e, r⟩ := most_loop w n w0 w1 hn [] 10000000 0 (by omega) (by omega) (by intro i hi; omega)
  refine ⟨m, ?_, r⟩
  have e : whGo B_law_most_c1 B_law_most_w1 10000000 [.dat (.int w), .dat (.int n), .dat (.int 0)] [] = _ := e
  simp [F_law_most, B_law_most, e]
theorem sm_sym (g : Nat → Int) : ∀ m : Nat, sm (2 * m + 1) (fun i => g ((i : Int) - (m : Int)).natAbs) = g 0 + 2 * sm m (fun i => g (i + 1))
  | 0 => by simp [sm]
  | m + 1 => by
    rw [show 2 * (m + 1) + 1 = (2 * m + 1) + 1 + 1 by omega, sm_succ, sm_head]
    have h1 : sm (2 * m + 1) (fun i => g (((i + 1 : Nat) : Int) - ((m + 1 : Nat) : Int)).natAbs) = sm (2 * m + 1) (fun i => g ((i : Int) - (m : Int)).natAbs) := sm_congr fun i _ => by
      congr 1; omega
    rw [h1, sm_sym g m, sm_succ]
    have h2 : (((0 : Nat) : Int) - ((m + 1 : Nat) : Int)).natAbs = m + 1 := by omega
    have h3 : (((2 * m + 1 + 1 : Nat) : Int) - ((m + 1 : Nat) : Int)).natAbs = m + 1 := by omega
    rw [h2, h3]
    omega
/-- what the law sums up is what the program has -/
theorem law_sum (w n m : Nat) (f : Nat → Int) (w0 : 0 < w) (h1 : ∀ i, i < m → w * (i + 1) * (i + 1) ≤ n) (h2 : n < w * (m + 1) * (m + 1)) : sm (2 * m + 1) (fun i => f (n - w * ((i : Int) - (m : Int)).natAbs * ((i : Int) - (m : Int)).natAbs)) = TH w f n := by
  rw [sm_sym (fun a => f (n - w * a * a)) m, ← J_all w0 h2]
  unfold J
  congr 1
  congr 1
  exact sm_congr fun i hi => by
    unfold tm
    rw [if_pos (h1 i hi)]
theorem row_b1 (w N n : Nat) (w0 : 0 < w) (w1 : w ≤ 12) (hN : N ≤ 100) (hn : n < N) (f : Nat → Int) (X : D) (L : List D) (c6 : FL.Slot) (hL : L.length ≤ 100) (π : Pot) : ∃ c6' : FL.Slot,
    B_law_row_b1 [.dat X, .dat (.int N), .dat (.list (rowI N f)), .dat (.int w), .own L, .dat (.int n), c6, .un] π = some ([.dat X, .dat (.int N), .dat (.list (rowI N f)), .dat (.int w), .own (L ++ [.int (TH w f n)]), .dat (.int n), c6', .un], π, .nx) ∧ isScr c6' = false := by
  obtain ⟨m, e, mn, h1, h2⟩ := most_eq w n w0 w1 (by omega)
  refine ⟨.dat (.int m), ?_, rfl⟩
  have lc : lcGo (gN 7) xYes (xOp ixF (xBo 2) (xOp subF (xBo 5) (xOp mulF (xOp mulF (xBo 3) (xBo 7)) (xBo 7)))) [.dat X, .dat (.int N), .dat (.list (rowI N f)), .dat (.int w), .own L, .dat (.int n), .dat (.int m), .un] (rg (-(m : Int)) (2 * m + 1)) π = some (rowI (2 * m + 1) (fun i => f (n - w * ((i : Int) - (m : Int)).natAbs * ((i : Int) - (m : Int)).natAbs)), π) :=
    lcGo_rg (-(m : Int)) (2 * m + 1) _ fun i hi => by
      have ea : (-(m : Int) + i) = (i : Int) - m := by omega
      obtain ⟨a, ha, am⟩ : ∃ a : Nat, ((i : Int) - (m : Int)).natAbs = a ∧ a ≤ m := ⟨_, rfl, by omega⟩
      rw [ha]
      have le : w * a * a ≤ n := by
        rcases Nat.eq_zero_or_pos a with rfl | p
        · simp
        · have := h1 (a - 1) (by omega)
          rw [show a - 1 + 1 = a by omega] at this
          exact this
      have m1 : mulOk (w : Int) ((i : Int) - m) = true := mulOk_of (a := 20) (b := 20) (by omega) (by omega)
      have wa : w * a ≤ 12 * 100 := Nat.mul_le_mul w1 (by omega)
      have m2 : mulOk ((w : Int) * ((i : Int) - m)) ((i : Int) - m) = true := by
        refine mulOk_of (a := 20) (b := 20) ?_ (by omega)
        rw [Int.natAbs_mul, ha, Int.natAbs_natCast]
        exact Nat.lt_of_le_of_lt wa (by decide)
      have ev : (w : Int) * ((i : Int) - m) * ((i : Int) - m) = ((w * a * a : Nat) : Int) := by
        rw [Int.mul_assoc, ← Int.natAbs_mul_self, Nat.mul_assoc]
        push_cast
        rw [ha]
      have ix : atI (rowI N f) ((n : Int) - ((w * a * a : Nat) : Int)) = some (.int (f (n - w * a * a))) := by
        rw [rowI_at (by omega) (by omega)]
        congr 3; omega
      refine ⟨_, rfl, rfl, ?_⟩
      generalize w * a * a = V at *
      rw [ea]
      generalize rowI N f = R at *
      simp [mulF_of m1, mulF_of m2, ev, ix]
  have r1 : rgOk (-(m : Int)) = true := rgOk_mk (by omega) (by omega)
  have r2 : rgOk ((m : Int) + 1) = true := rgOk_mk (by omega) (by omega)
  have tn : ((m : Int) + 1 - -(m : Int)).toNat = 2 * m + 1 := by omega
  have tn2 : ((m : Int) + 1 + (m : Int)).toNat = 2 * m + 1 := by omega
  have su := sumF_rowI (2 * m + 1) (fun i => f (n - w * ((i : Int) - (m : Int)).natAbs * ((i : Int) - (m : Int)).natAbs))
  rw [law_sum w n m f w0 h1 h2] at su
  have l1 : 2 * m + 1 ≤ 100000 := by omega
  have l2 : L.length < 100000 := by omega
  generalize rowI N f = R at *
  generalize rowI (2 * m + 1) (fun i => f (n - w * ((i : Int) - (m : Int)).natAbs * ((i : Int) - (m : Int)).natAbs)) = R2 at *
  simp [B_law_row_b1, e, r1, r2, tn, tn2, rg_length, lc, su, l1, l2, -lcGo, -sumF, -subF]
theorem row_b2 (w N : Nat) (w0 : 0 < w) (w1 : w ≤ 12) (hN : N ≤ 100) (f : Nat → Int) (X : D) (c4 c5 c6 : FL.Slot) (s4 : isScr c4 = false) (s5 : isScr c5 = false) (s6 : isScr c6 = false) (π : Pot) : ∃ c4' c5' c6' : FL.Slot,
    B_law_row_b2 [.dat X, .dat (.int N), .dat (.list (rowI N f)), .dat (.int w), c4, c5, c6, .un] π = some ([.dat X, .dat (.int N), .dat (.list (rowI N (TH w f))), .dat (.int w), c4', c5', c6', .un], π, .nx) ∧ isScr c4' = false ∧ isScr c5' = false ∧ isScr c6' = false := by
  have L := forGo_inv (tg := gN 5) (b := B_law_row_b1) (fun i ρ π2 => ∃ c5 c6 : FL.Slot, ρ = [.dat X, .dat (.int N), .dat (.list (rowI N f)), .dat (.int w), .own (rowI i (TH w f)), c5, c6, .un] ∧ π2 = π ∧ isScr c5 = false ∧ isScr c6 = false) (rg 0 N) (by
    rintro i d ρ π2 hd ⟨c5, c6, rfl, rfl, _, _⟩
    obtain ⟨li, rfl⟩ := rg_get hd
    obtain ⟨c6', e, s⟩ := row_b1 w N i w0 w1 hN li f X (rowI i (TH w f)) c6 (by simp [rowI]; omega) π2
    refine ⟨_, _, _, rfl, .inl (by rw [show ((0 : Int) + (i : Int)) = (i : Int) by omega]; exact e), .dat (.int i), c6', by rw [rowI_succ], rfl, rfl, s⟩) (ρ := [.dat X, .dat (.int N), .dat (.list (rowI N f)), .dat (.int w), .own [], c5, c6, .un]) (π := π) ⟨c5, c6, rfl, rfl, s5, s6⟩
  obtain ⟨ρ', π', e, c5', c6', rfl, rfl, q5, q6⟩ := L
  rw [rg_length] at e
  refine ⟨.dat (.list (rowI N (TH w f))), c5', c6', ?_, rfl, q5, q6⟩
  have r : rgOk (N : Int) = true := rgOk_mk (by omega) (by omega)
  generalize rowI N f = R at *
  generalize rowI N (TH w f) = R2 at *
  simp [B_law_row_b2, r, e, s4, s5, s6, -forGo]
theorem lrow_loop (N : Nat) (hN : N ≤ 100) (X : D) (π : Pot) : ∀ (ws : List Nat) (f : Nat → Int) (c3 c4 c5 c6 : FL.Slot), (∀ w ∈ ws, 0 < w ∧ w ≤ 12) → isScr c4 = false → isScr c5 = false → isScr c6 = false → ∃ c3' c4' c5' c6' : FL.Slot,
    forGo (gN 3) B_law_row_b2 (wsD ws) [.dat X, .dat (.int N), .dat (.list (rowI N f)), c3, c4, c5, c6, .un] π = some ([.dat X, .dat (.int N), .dat (.list (rowI N (ws.foldl (fun f w => TH w f) f))), c3', c4', c5', c6', .un], π, .nx)
  | [], f, c3, c4, c5, c6, _, _, _, _ => ⟨c3, c4, c5, c6, rfl⟩
  | w :: ws, f, c3, c4, c5, c6, h, s4, s5, s6 => by
    have hw := h w List.mem_cons_self
    obtain ⟨d4, d5, d6, b, q4, q5, q6⟩ := row_b2 w N hw.1 hw.2 hN f X c4 c5 c6 s4 s5 s6 π
    obtain ⟨e3, e4, e5, e6, e⟩ := lrow_loop N hN X π ws (TH w f) (.dat (.int w)) d4 d5 d6 (fun x hx => h x (List.mem_cons_of_mem _ hx)) q4 q5 q6
    refine ⟨e3, e4, e5, e6, ?_⟩
    show forGo _ _ (.int (w : Int) :: wsD ws) _ _ = _
    unfold forGo
    have g : gN 3 (.int (w : Int)) [.dat X, .dat (.int N), .dat (.list (rowI N f)), c3, c4, c5, c6, .un] = some [.dat X, .dat (.int N), .dat (.list (rowI N f)), .dat (.int w), c4, c5, c6, .un] := by simp
    rw [g]
    simp only [Option.bind_some]
    rw [b]
    exact e
theorem law_row_eq (N : Nat) (hN : N ≤ 100) (ws : List Nat) (h : ∀ w ∈ ws, 0 < w ∧ w ≤ 12) : F_law_row [.tuple (wsD ws), .int N] = some (.list (rowI N (WF ws))) := by
  obtain ⟨c3, c4, c5, c6, e⟩ := lrow_loop N hN (.tuple (wsD ws)) [] ws ws0 .un .un .un .un h rfl rfl rfl
  have rl : (N : Int).toNat = N := by omega
  have cd : FL.cutD (PyData.int 1 :: List.replicate N (PyData.int 0)) none (some (N : Int)) = rowI N ws0 := by
    rcases Nat.eq_zero_or_pos N with rfl | p
    · simp [FL.cutD, rowI]
    · rw [cut_take _ _ (by simp), first_row N p]
  have fl := flat_rep N
  have mr : mulF (.list [.int 0]) (.int N) = some (.list (List.replicate N (PyData.int 0))) := by
    have e0 : mulF (.list [.int 0]) (.int N) = if (N : Int) ≤ 100000 ∧ -100000 ≤ (N : Int) ∧ 1 * (N : Int).toNat ≤ 100000 then some (.list (List.replicate (N : Int).toNat [PyData.int 0]).flatten) else none := rfl
    rw [e0, if_pos ⟨by omega, by omega, by omega⟩, rl, fl]
  have ar : addF (.list [.int 1]) (.list (List.replicate N (PyData.int 0))) = some (.list (PyData.int 1 :: List.replicate N (PyData.int 0))) := by
    have e0 : addF (.list [.int 1]) (.list (List.replicate N (PyData.int 0))) = if 1 + (List.replicate N (PyData.int 0)).length ≤ 100000 then some (.list ([.int 1] ++ List.replicate N (PyData.int 0))) else none := rfl
    rw [e0, List.length_replicate, if_pos (by omega)]; rfl
  unfold WF
  generalize hL : (PyData.int 1 :: List.replicate N (PyData.int 0)) = L at *
  generalize hL2 : List.replicate N (PyData.int 0) = L2 at *
  generalize hW : wsD ws = W at *
  simp [F_law_row, B_law_row, mr, ar, cd, e, -forGo, -FL.cutD, -addF]
end K38.W

noncomputable section
namespace K38.W
open PySem PySem.Spec PyProof.Rows L2 EP FL
open PSr
def Fd (ws : List Nat) : D := .tuple [.str "squares", .tuple (wsD ws)]
/-- forms -/
structure Gf (ws : List Nat) : Prop where
  l0 : 1 ≤ ws.length
  l1 : ws.length ≤ 8
  ok : ∀ w ∈ ws, 0 < w ∧ w ≤ 12
  up : ws.Pairwise (· ≤ ·)
theorem is_within_i (i lo hi : Int) (h : lo ≤ i ∧ i ≤ hi) : F_is_within [.int i, .int lo, .int hi] = some (.bool true) := by
  have e : F_is_integer [.int i] = some (.bool true) := rfl
  simp [F_is_within, B_is_within, e, h.1, h.2]
theorem up_lc : ∀ (ws : List Nat) (π : Pot) (X Y : FL.Slot), ws.Pairwise (· ≤ ·) →
    lcGo (gT 2 (gsC (gN 3) (gsC (gN 4) gsN))) xYes (xOp (cmpF fun i j => decide (i ≤ j)) (xBo 3) (xBo 4)) [X, Y, .un, .un, .un] (zipD (wsD ws) ((wsD ws).drop 1)) π = some ((zipD (wsD ws) ((wsD ws).drop 1)).map fun _ => .bool true, π)
  | [], π, X, Y, _ => rfl
  | [a], π, X, Y, _ => rfl
  | a :: b :: r, π, X, Y, h => by
    have hab : a ≤ b := (List.pairwise_cons.mp h).1 b List.mem_cons_self
    have ih := up_lc (b :: r) π X Y (List.pairwise_cons.mp h).2
    show lcGo _ _ _ _ (.tuple [.int a, .int b] :: zipD (wsD (b :: r)) ((wsD (b :: r)).drop 1)) π = _
    unfold lcGo
    have s1 : gT 2 (gsC (gN 3) (gsC (gN 4) gsN)) (.tuple [.int a, .int b]) [X, Y, .un, .un, .un] = some [X, Y, .un, .dat (.int a), .dat (.int b)] := by simp
    have s2 : xOp (cmpF fun i j => decide (i ≤ j)) (xBo 3) (xBo 4) [X, Y, .un, .dat (.int a), .dat (.int b)] π = some (.bool true, π) := by simp [hab]
    rw [s1]
    simp only [Option.bind_some, xYes, if_true]
    rw [s2]
    simp only [Option.bind_some]
    rw [ih]
    rfl
theorem trues (ds : List D) : boolsO (ds.map fun _ => .bool true) = some (ds.map fun _ => true) := boolsO_map (fun _ => true) ds
theorem is_form_ok {ws : List Nat} (g : Gf ws) : F_is_form [Fd ws] = some (.bool true) := by
  have l0 := g.l0
  have l1 := g.l1
  have wl : (wsD ws).length = ws.length := by simp [wsD]
  have t1 : F_is_tagged [Fd ws, .str "squares", .int 2] = some (.bool true) := by simp [Fd, F_is_tagged, B_is_tagged, eqF]
  have kx : ixF (Fd ws) (.int 1) = some (.tuple (wsD ws)) := by simp [Fd]
  have a1 : lcGo (gN 2) xYes (xCb F_is_within (aCons (xVar 2) (aCons (xC (.int 1)) (aCons (xC (.int 12)) aNil)))) [.dat (Fd ws), .dat (.tuple (wsD ws)), .un, .un, .un] (wsD ws) [] = some ((wsD ws).map fun _ => .bool true, []) :=
    lcGo_map (fun _ => .bool true) (wsD ws) fun d hd => by
      obtain ⟨w, hw, rfl⟩ := List.mem_map.mp hd
      have := g.ok w hw
      have e := is_within_i w 1 12 ⟨by omega, by omega⟩
      exact ⟨_, rfl, rfl, by simp [e]⟩
  have a2 := up_lc ws [] (.dat (Fd ws)) (.dat (.tuple (wsD ws))) g.up
  have zl : (zipD (wsD ws) ((wsD ws).drop 1)).length ≤ 100000 := by
    rw [zipD_length, List.length_drop]; omega
  have cd : FL.cutD (wsD ws) (some 1) none = (wsD ws).drop 1 := cut_drop _ 1 (by omega)
  rw [List.drop_one] at a2 zl cd
  have n1 : 1 ≤ ((wsD ws).length : Int) := by omega
  have n2 : ((wsD ws).length : Int) ≤ 8 := by omega
  have n3 : (wsD ws).length ≤ 100000 := by omega
  have b1 := trues (wsD ws)
  have b2 := trues (zipD (wsD ws) (wsD ws).tail)
  have cm : ∀ (p : Int → Int → Bool) (i j : Int), cmpF p (.int i) (.int j) = some (.bool (p i j)) := fun p i j => by simp
  generalize wsD ws = W at *
  generalize Fd ws = X at *
  simp [F_is_form, B_is_form, t1, kx, a1, a2, zl, cd, n1, n2, n3, b1, b2, cm, -lcGo, -ixF, -FL.cutD, -cmpF]
theorem check_form_ok {ws : List Nat} (g : Gf ws) : F_check_form [Fd ws] = some .none := by
  simp [F_check_form, B_check_form, is_form_ok g]
theorem check_many_ok {N : Nat} (h : N ≤ 100) : F_check_many [.int N, .int 3000] = some .none := by
  have w1 := is_within_i N 0 3000 ⟨by omega, by omega⟩
  simp [F_check_many, B_check_many, w1]
theorem ways_row_eq {ws : List Nat} (g : Gf ws) {N : Nat} (h : N ≤ 100) : F_ways_row [Fd ws, .int N] = some (.list (rowI N (WF ws))) := by
  have c1 := check_form_ok g
  have c2 := check_many_ok h
  have l1 := g.l1
  have r := row_of_ways_eq N h ws g.ok (by omega)
  have kx : ixF (Fd ws) (.int 1) = some (.tuple (wsD ws)) := by simp [Fd]
  generalize rowI N (WF ws) = R at *
  generalize wsD ws = W at *
  generalize Fd ws = X at *
  simp [F_ways_row, B_ways_row, c1, c2, r, kx, -ixF]
/-! ### the drawn weights -/
structure Gi (ns : List Int) : Prop where
  l0 : 1 ≤ ns.length
  l1 : ns.length ≤ 8
  ok : ∀ w ∈ ns, 1 ≤ w ∧ w ≤ 12
  up : ns.Pairwise (· ≤ ·)
def nn (ns : List Int) : List Nat := ns.map Int.toNat
theorem wsD_nn {ns : List Int} (h : ∀ w ∈ ns, 1 ≤ w ∧ w ≤ 12) : wsD (nn ns) = ns.map PyData.int := by
  unfold wsD nn
  rw [List.map_map]
  refine List.map_congr_left fun w hw => ?_
  have := h w hw
  show PyData.int ((w.toNat : Nat) : Int) = .int w
  congr 1; omega
theorem Gi.f {ns : List Int} (g : Gi ns) : Gf (nn ns) := by
  refine ⟨by simp [nn]; exact g.l0, by simp [nn]; exact g.l1, fun w hw => ?_, ?_⟩
  · obtain ⟨x, hx, rfl⟩ := List.mem_map.mp hw
    have := g.ok x hx
    omega
  · unfold nn
    rw [List.pairwise_map]
    exact g.up.imp fun h => by omega
end K38.W

noncomputable section
namespace K38
open PySem PySem.Spec PyProof.Rows L2 EP FL PSr
/-! ### powers of forms -/
def trip (w : Int) : Ps := [(w, -2), (2 * w, 5), (4 * w, -2)]
def trips : List Int → Ps
  | [] => []
  | w :: r => trip w ++ trips r
def pwr (ws : List Int) : Ps := fin ((trips ws).foldl add2 [])
theorem nl0 : (([] : Ps).map Prod.fst).Nodup := by simp
theorem pwr_lin (g : Int → Int) (ws : List Int) : lin g (pwr ws) = lin g (trips ws) := by
  unfold pwr
  rw [lin_fin g (fold_nodup _ nl0), lin_fold g _ nl0, lin_nil]; omega
theorem pwr_cn (ws : List Int) : Cn (pwr ws) := fin_cn (fold_nodup _ nl0)
theorem trips_app : ∀ a b : List Int, trips (a ++ b) = trips a ++ trips b
  | [], b => rfl
  | w :: a, b => by
    show trip w ++ trips (a ++ b) = (trip w ++ trips a) ++ trips b
    rw [trips_app a b, List.append_assoc]
theorem trips_len : ∀ ws : List Int, (trips ws).length = 3 * ws.length
  | [] => rfl
  | w :: r => by
    show (trip w ++ trips r).length = _
    rw [List.length_append, trips_len r, List.length_cons]
    show 3 + _ = _
    omega
theorem trips_keys : ∀ (ws : List Int), (∀ w ∈ ws, 1 ≤ w ∧ w ≤ 12) → ∀ s ∈ (trips ws).map Prod.fst, 1 ≤ s ∧ s ≤ 48
  | [], _, s, h => by cases h
  | w :: r, hw, s, h => by
    have h : s ∈ (trip w ++ trips r).map Prod.fst := h
    rw [List.map_append, List.mem_append] at h
    have w1 := hw w List.mem_cons_self
    rcases h with h | h
    · simp [trip] at h
      omega
    · exact trips_keys r (fun x hx => hw x (List.mem_cons_of_mem _ hx)) s h
theorem dl_cases (s x : Int) : dl1 s x = 0 ∨ dl1 s x = 1 ∧ x = s := by
  unfold dl1
  by_cases c : x = s
  · right; exact ⟨by rw [if_pos c], c⟩
  · left; rw [if_neg c]
theorem trip_b (s w : Int) : -4 ≤ lin (dl1 s) (trip w) ∧ lin (dl1 s) (trip w) ≤ 5 := by
  unfold trip
  rw [lin_cons, lin_cons, lin_cons, lin_nil]
  show -4 ≤ dl1 s w * -2 + (dl1 s (2 * w) * 5 + (dl1 s (4 * w) * -2 + 0)) ∧ dl1 s w * -2 + (dl1 s (2 * w) * 5 + (dl1 s (4 * w) * -2 + 0)) ≤ 5
  have a := dl_cases s w
  have b := dl_cases s (2 * w)
  have c := dl_cases s (4 * w)
  omega
theorem trips_b (s : Int) : ∀ ws : List Int, -(4 * (ws.length : Int)) ≤ lin (dl1 s) (trips ws) ∧ lin (dl1 s) (trips ws) ≤ 5 * (ws.length : Int)
  | [] => by show _ ≤ (0 : Int) ∧ (0 : Int) ≤ _; simp
  | w :: r => by
    have a := trip_b s w
    have b := trips_b s r
    show _ ≤ lin (dl1 s) (trip w ++ trips r) ∧ _
    have e : lin (dl1 s) (trips (w :: r)) = lin (dl1 s) (trip w) + lin (dl1 s) (trips r) := lin_app _ _ _
    have e2 : lin (dl1 s) (trip w ++ trips r) = lin (dl1 s) (trip w) + lin (dl1 s) (trips r) := lin_app _ _ _
    rw [e, e2, List.length_cons]
    omega
theorem pwr_g {ws : List Int} (h : ∀ w ∈ ws, 1 ≤ w ∧ w ≤ 12) (l : ws.length ≤ 4) : Gp (pwr ws) := by
  have cn := pwr_cn ws
  have l1 := fin_len ((trips ws).foldl add2 [])
  have l2 := foldl_len (trips ws) []
  have l3 := trips_len ws
  simp only [List.length_nil] at l2
  refine ⟨by show (fin _).length ≤ 12; omega, fun q hq => ?_, cn.ris⟩
  have e1 := cn_mem cn hq
  rw [← lin_dl q.1 (ris_nodup cn.ris), pwr_lin] at e1
  have b := trips_b q.1 ws
  have nz := cn.nz q hq
  have k : 1 ≤ q.1 ∧ q.1 ≤ 48 := by
    rcases fold_keys (trips ws) (fin_keys hq) with z | z
    · cases z
    · exact trips_keys ws h q.1 z
  omega
theorem both_pwr {a b : List Int} (f : Gp (pwr a)) : both (pwr a) (pwr b) = pwr (a ++ b) := cn_uniq (both_cn f) (pwr_cn _) fun g => by
  rw [both_lin f, pwr_lin, pwr_lin, pwr_lin, trips_app, lin_app]
/-! ### the two defs -/
theorem mul2 {w : Int} (hw : 1 ≤ w ∧ w ≤ 12) : mulF (.int 2) (.int w) = some (.int (2 * w)) := mulF_of (mulOk_of (a := 10) (b := 10) (by decide) (by omega))
theorem mul4 {w : Int} (hw : 1 ≤ w ∧ w ≤ 12) : mulF (.int 4) (.int w) = some (.int (4 * w)) := mulF_of (mulOk_of (a := 10) (b := 10) (by decide) (by omega))
theorem trip_rows (w : Int) : ([.tuple [.int w, .int (-2)], .tuple [.int (2 * w), .int 5], .tuple [.int (4 * w), .int (-2)]] : List D) = rowsP (trip w) := rfl
theorem lp_b2 {s0 : FL.Slot} {π : Pot} {w : Int} (hw : 1 ≤ w ∧ w ≤ 12) (acc : Ps) (ha : acc.length < 900) (c3 c4 : FL.Slot) (h3 : c3.isOwn = false) : ∃ c3' c4' : FL.Slot, c3'.isOwn = false ∧
    B_law_powers_b2 [s0, .dct (kvD acc), .dat (.int w), c3, c4] π = some ([s0, .dct (kvD ((trip w).foldl add2 acc)), .dat (.int w), c3', c4'], π, .nx) := by
  obtain ⟨c3', c4', i3, ih⟩ := powers_go (s0 := s0) (s2 := .dat (.int w)) (π := π) (trip w) acc c3 c4 (by simp [trip]; omega) h3
  refine ⟨c3', c4', i3, ?_⟩
  have m2 := mul2 hw
  have m4 := mul4 hw
  have r := trip_rows w
  have rl : (rowsP (trip w)).length ≤ 100000 := by rw [rowsP_length]; show 3 ≤ 100000; decide
  generalize rowsP (trip w) = R at *
  generalize kvD ((trip w).foldl add2 acc) = K2 at *
  generalize kvD acc = K1 at *
  simp [B_law_powers_b2, m2, m4, r, rl, ih, -forGo]
theorem fp_b2 {s0 : FL.Slot} {π : Pot} {w : Int} (hw : 1 ≤ w ∧ w ≤ 12) (acc : Ps) (ha : acc.length < 900) (c3 c4 : FL.Slot) (h3 : c3.isOwn = false) : ∃ c3' c4' : FL.Slot, c3'.isOwn = false ∧
    B_form_product_b2 [s0, .dct (kvD acc), .dat (.int w), c3, c4] π = some ([s0, .dct (kvD ((trip w).foldl add2 acc)), .dat (.int w), c3', c4'], π, .nx) := by
  obtain ⟨c3', c4', i3, ih⟩ := powers_go (s0 := s0) (s2 := .dat (.int w)) (π := π) (trip w) acc c3 c4 (by simp [trip]; omega) h3
  refine ⟨c3', c4', i3, ?_⟩
  have e : B_law_powers_b1 = B_form_product_b1 := rfl
  rw [e] at ih
  have m2 := mul2 hw
  have m4 := mul4 hw
  have r := trip_rows w
  have rl : (rowsP (trip w)).length ≤ 100000 := by rw [rowsP_length]; show 3 ≤ 100000; decide
  generalize rowsP (trip w) = R at *
  generalize kvD ((trip w).foldl add2 acc) = K2 at *
  generalize kvD acc = K1 at *
  simp [B_form_product_b2, m2, m4, r, rl, ih, -forGo]
theorem out_go {B : Sx} {s0 : FL.Slot} {π : Pot} (hB : ∀ (w : Int), 1 ≤ w ∧ w ≤ 12 → ∀ (acc : Ps), acc.length < 900 → ∀ (c3 c4 : FL.Slot), c3.isOwn = false → ∃ c3' c4' : FL.Slot, c3'.isOwn = false ∧
    B [s0, .dct (kvD acc), .dat (.int w), c3, c4] π = some ([s0, .dct (kvD ((trip w).foldl add2 acc)), .dat (.int w), c3', c4'], π, .nx)) : ∀ (ws : List Int) (acc : Ps) (c2 c3 c4 : FL.Slot), (∀ w ∈ ws, 1 ≤ w ∧ w ≤ 12) → acc.length + 3 * ws.length < 900 → c2.isOwn = false → c3.isOwn = false → ∃ c2' c3' c4' : FL.Slot, c2'.isOwn = false ∧ c3'.isOwn = false ∧
    forGo (gN 2) B (ws.map PyData.int) [s0, .dct (kvD acc), c2, c3, c4] π = some ([s0, .dct (kvD ((trips ws).foldl add2 acc)), c2', c3', c4'], π, .nx)
  | [], acc, c2, c3, c4, _, _, h2, h3 => ⟨c2, c3, c4, h2, h3, rfl⟩
  | w :: ws, acc, c2, c3, c4, hw, hl, h2, h3 => by
    rw [List.length_cons] at hl
    obtain ⟨d3, d4, j3, b⟩ := hB w (hw w List.mem_cons_self) acc (by omega) c3 c4 h3
    have fl := foldl_len (trip w) acc
    have tl : (trip w).length = 3 := rfl
    obtain ⟨e2, e3, e4, k2, k3, ih⟩ := out_go hB ws ((trip w).foldl add2 acc) (.dat (.int w)) d3 d4 (fun x hx => hw x (List.mem_cons_of_mem _ hx)) (by omega) rfl j3
    refine ⟨e2, e3, e4, k2, k3, ?_⟩
    have ef : (trips (w :: ws)).foldl add2 acc = (trips ws).foldl add2 ((trip w).foldl add2 acc) := by
      show (trip w ++ trips ws).foldl add2 acc = _
      rw [List.foldl_append]
    rw [ef]
    show forGo _ _ (.int w :: ws.map PyData.int) _ _ = _
    generalize kvD ((trips ws).foldl add2 ((trip w).foldl add2 acc)) = K3 at *
    generalize kvD ((trip w).foldl add2 acc) = K2 at *
    generalize kvD acc = K1 at *
    generalize ws.map PyData.int = L at *
    unfold forGo
    simp [b, ih, -forGo]
theorem law_powers_eq {ws : List Int} (h : ∀ w ∈ ws, 1 ≤ w ∧ w ≤ 12) (l : ws.length ≤ 8) : F_law_powers [.tuple (ws.map PyData.int)] = some (.tuple (rowsP (pwr ws))) := by
  obtain ⟨c2, c3, c4, i2, i3, L1⟩ := out_go (B := B_law_powers_b2) (s0 := .dat (.tuple (ws.map PyData.int))) (π := []) (fun w hw acc ha c3 c4 h3 => lp_b2 hw acc ha c3 c4 h3) ws [] .un .un .un h (by simp; omega) rfl rfl
  have eB : pwr ws = fin ((trips ws).foldl add2 []) := rfl
  have l1 := foldl_len (trips ws) []
  have l3 := trips_len ws
  simp only [List.length_nil] at l1
  generalize hQ : (trips ws).foldl add2 [] = Q at *
  obtain ⟨sp, _⟩ := srt_spec (Q.map Prod.fst)
  have so := sortXF_l (Q.map Prod.fst)
  rw [sort_srt] at so
  have X := fun s0 s2 s4 => lc_gen (tg := gN 3) (tt := xT (xOp (eqF true) (xEG 1 (xBo 3)) (xC (.int 0)))) (el := xTup (aCons (xVar 3) (aCons (xEG 1 (xBo 3)) aNil))) (ρw := [s0, .dct (kvD Q), s2, .un, s4]) (π := []) PyData.int (fun s => decide (vl Q s ≠ 0)) (fun s => .tuple [.int s, .int (vl Q s)]) (srt (Q.map Prod.fst)) fun s hs => by
    have v := val_mem (sp.mem_iff.mp hs)
    have kd : keyD (.int s) = some (Sum.inl s) := rfl
    refine ⟨[s0, .dct (kvD Q), s2, .dat (.int s), s4], rfl, ?_, fun _ => ?_⟩
    · generalize kvD Q = K1 at *
      have eq := eqF_int true (vl Q s) 0
      simp [kd, v, eq]
    · generalize kvD Q = K1 at *
      simp [kd, v]
  simp only [fin_rows] at X
  rw [← eB] at X
  have keys := kv_keys Q
  have lk : (srt (Q.map Prod.fst)).length ≤ 100000 := by
    rw [sp.length_eq, List.length_map]; omega
  have kn : kvD [] = [] := rfl
  rw [kn] at L1
  have r1 : (ws.map PyData.int).length ≤ 100000 := by rw [List.length_map]; omega
  generalize rowsP (pwr ws) = RB at *
  generalize srt (Q.map Prod.fst) = SR at *
  generalize (Q.map Prod.fst).map PyData.int = R3 at *
  generalize kvD Q = K1 at *
  generalize ws.map PyData.int = WL at *
  have hs0 : hasScr [.dat (.tuple WL), .un, .un, .un, .un] = false := rfl
  simp [F_law_powers, B_law_powers, hs0, L1, keys, so, lk, X, i3, tupleF, -lcGo, -xEG, -forGo]
theorem form_product_eq {ws : List Int} (g : W.Gi ws) (gp : Gp (pwr ws)) : F_form_product [W.Fd (W.nn ws)] = some (Pd (pwr ws)) := by
  have l1 := g.l1
  obtain ⟨c2, c3, c4, i2, i3, L1⟩ := out_go (B := B_form_product_b2) (s0 := .dat (W.Fd (W.nn ws))) (π := []) (fun w hw acc ha c3 c4 h3 => fp_b2 hw acc ha c3 c4 h3) ws [] .un .un .un g.ok (by simp; omega) rfl rfl
  have cf := W.check_form_ok g.f
  have kx : ixF (W.Fd (W.nn ws)) (.int 1) = some (.tuple (ws.map PyData.int)) := by simp [W.Fd, W.wsD_nn g.ok]
  have fl := foldl_len (trips ws) []
  have l3 := trips_len ws
  simp only [List.length_nil] at fl
  have po := product_of_eq (qs := (trips ws).foldl add2 []) (by omega) gp.len fun q hq => by
    have := gp.ok q hq
    omega
  have eB : fin ((trips ws).foldl add2 []) = pwr ws := rfl
  rw [eB] at po
  have kn : kvD [] = [] := rfl
  rw [kn] at L1
  generalize Pd (pwr ws) = RB at *
  generalize kvD ((trips ws).foldl add2 []) = K1 at *
  generalize ws.map PyData.int = WL at *
  generalize W.Fd (W.nn ws) = X at *
  have hs0 : hasScr [.dat X, .un, .un, .un, .un] = false := rfl
  simp [F_form_product, B_form_product, cf, kx, hs0, L1, po, -forGo, -ixF]
end K38

noncomputable section
namespace K38
open PySem PySem.Spec PyProof.Rows L2 EP FL PSr
variable {N : Nat}
/-! ### the ways as a product of series -/
def sh (d : Nat) (f : Sr) : Sr := fun n => if d ≤ n then f (n - d) else 0
theorem put_cvl {d : Nat} (hd : 0 < d) (f g : Sr) : cv (put d f) g = put d (cv f g) := by
  rw [put_cv hd, put_cv hd, cv_assoc, cv_comm (PSr.st d) g, ← cv_assoc]
theorem cv_sh {d : Nat} (hd : 0 < d) (f g : Sr) : cv (sh d f) g = sh d (cv f g) := by
  have e : f = fun n => sh d f n + put d f n := funext fun n => by
    show f n = sh d f n + (f n - sh d f n)
    omega
  have k : cv f g = fun n => cv (sh d f) g n + put d (cv f g) n := by
    conv => lhs; rw [e]
    rw [add_cv, put_cvl hd]
  funext n
  have kn := congrFun k n
  have pn : put d (cv f g) n = cv f g n - sh d (cv f g) n := rfl
  rw [pn] at kn
  omega
theorem cv_two (a b f : Sr) : cv (fun n => a n + 2 * b n) f = fun n => cv a f n + 2 * cv b f n := by
  rw [add_cv a (fun n => 2 * b n) f]
  funext n
  congr 1
  show sm (n + 1) (fun i => 2 * b i * f (n - i)) = 2 * sm (n + 1) (fun i => b i * f (n - i))
  rw [← sm_mul]
  exact sm_congr fun i _ => Int.mul_assoc ..
theorem J_zero (w : Nat) (f : Sr) : W.J w f 0 = f := by
  funext n
  unfold W.J
  simp
theorem J_next (w : Nat) (f : Sr) (k : Nat) : W.J w f (k + 1) = fun n => W.J w f k n + 2 * sh (w * (k + 1) * (k + 1)) f n := funext fun n => W.J_succ w f k n
theorem J_cv {w : Nat} (w0 : 0 < w) (g f : Sr) : ∀ k, W.J w (cv g f) k = cv (W.J w g k) f
  | 0 => by rw [J_zero, J_zero]
  | k + 1 => by
    have d0 : 0 < w * (k + 1) * (k + 1) := Nat.mul_pos (Nat.mul_pos w0 (Nat.succ_pos _)) (Nat.succ_pos _)
    rw [J_next, J_next, J_cv w0 g f k, cv_two, cv_sh d0]
theorem sq_big {w n : Nat} (w0 : 0 < w) {i : Nat} (h : i ≤ n) : i < w * (n + 1 + 1) * (n + 1 + 1) := by
  have h1 : n + 1 + 1 ≤ w * (n + 1 + 1) * (n + 1 + 1) := Nat.le_mul_of_pos_left _ (Nat.mul_pos w0 (by omega))
  omega
theorem TH_cv {w : Nat} (w0 : 0 < w) (g f : Sr) : W.TH w (cv g f) = cv (W.TH w g) f := by
  funext n
  rw [← W.J_all (k := n + 1) w0 (sq_big w0 (Nat.le_refl n)), J_cv w0]
  show sm (n + 1) _ = sm (n + 1) _
  refine sm_congr fun i hi => ?_
  rw [W.J_all (k := n + 1) w0 (sq_big w0 (show i ≤ n by omega))]
theorem ws0_one : W.ws0 = one := rfl
def th (w : Nat) : Sr := W.TH w one
theorem TH_th {w : Nat} (w0 : 0 < w) (f : Sr) : W.TH w f = cv (th w) f := by
  unfold th
  rw [← TH_cv w0, one_cv]
theorem fold_cv : ∀ (ws : List Nat) (f : Sr), (∀ w ∈ ws, 0 < w) → ws.foldl (fun f w => W.TH w f) f = cv (W.WF ws) f
  | [], f, _ => by
    show f = cv W.ws0 f
    rw [ws0_one, one_cv]
  | w :: ws, f, h => by
    have w0 := h w List.mem_cons_self
    have hr : ∀ x ∈ ws, 0 < x := fun x hx => h x (List.mem_cons_of_mem _ hx)
    have e : W.WF (w :: ws) = cv (W.WF ws) (th w) := fold_cv ws (W.TH w W.ws0) hr
    rw [e]
    show ws.foldl (fun f w => W.TH w f) (W.TH w f) = _
    rw [fold_cv ws _ hr, TH_th w0, cv_assoc]
theorem WF_cons {w : Nat} {ws : List Nat} (h : ∀ x ∈ w :: ws, 0 < x) : W.WF (w :: ws) = cv (th w) (W.WF ws) := by
  have e : W.WF (w :: ws) = cv (W.WF ws) (th w) := fold_cv ws (W.TH w W.ws0) fun x hx => h x (List.mem_cons_of_mem _ hx)
  rw [e, cv_comm]
theorem WF_app {a b : List Nat} (h : ∀ x ∈ b, 0 < x) : W.WF (a ++ b) = cv (W.WF a) (W.WF b) := by
  show (a ++ b).foldl (fun f w => W.TH w f) W.ws0 = _
  rw [List.foldl_append, fold_cv b _ h, cv_comm]
  rfl
theorem WF_perm {a b : List Nat} (p : a.Perm b) : (∀ x ∈ a, 0 < x) → W.WF a = W.WF b := by
  induction p with
  | nil => intro _; rfl
  | cons x p ih =>
    intro h
    have hb : ∀ y ∈ x :: _, 0 < y := fun y hy => h y ((List.Perm.cons x p).mem_iff.mpr hy)
    rw [WF_cons h, WF_cons hb, ih fun y hy => h y (List.mem_cons_of_mem _ hy)]
  | swap x y l =>
    intro h
    have hx := h x (by simp)
    have hy := h y (by simp)
    have hl : ∀ z ∈ l, 0 < z := fun z hz => h z (by simp [hz])
    have h1 : ∀ z ∈ x :: l, 0 < z := fun z hz => by
      rcases List.mem_cons.mp hz with rfl | hz
      · exact hx
      · exact hl z hz
    have h2 : ∀ z ∈ y :: l, 0 < z := fun z hz => by
      rcases List.mem_cons.mp hz with rfl | hz
      · exact hy
      · exact hl z hz
    rw [WF_cons h, WF_cons h1, WF_cons (w := x) (ws := y :: l) fun z hz => by
      rcases List.mem_cons.mp hz with rfl | hz
      · exact hx
      · exact h2 z hz, WF_cons h2, ← cv_assoc, ← cv_assoc, cv_comm (th y) (th x)]
  | trans p q ih1 ih2 =>
    intro h
    rw [ih1 h, ih2 fun y hy => h y (p.mem_iff.mpr hy)]
/-! ### the product of one weight -/
theorem tS_N {k N s : Nat} (s0 : 0 < s) (hk : k < N) (hN : N ≤ 30) : tS N k (s : Int) = tS 30 k (s : Int) := by
  unfold tS
  have e : ((s : Int)).toNat = s := by omega
  rw [e]
  have le : nm s N ≤ nm s 30 := by
    rcases Nat.lt_or_ge (nm s 30) (nm s N) with c | c
    · have h1 := nm_lt s0 c
      have h2 : ¬ (nm s 30 < nm s 30) := Nat.lt_irrefl _
      have h3 : nm s 30 < nm s 30 ↔ (nm s 30 + 1) * s < 30 := n3_lt s0
      exact absurd (h3.mpr (by omega)) h2
    · exact c
  refine (sm_more le fun i hi _ => ?_).symm
  have far : ¬ ((i + 1) * s < N) := fun z => by
    have h3 : i < nm s N ↔ (i + 1) * s < N := n3_lt s0
    have := h3.mpr z
    omega
  unfold PSr.dv
  by_cases c : k = 0
  · rw [if_pos c]
  · rw [if_neg c, if_neg]
    rw [Nat.mod_eq_of_lt (by omega)]
    exact c
def tL (w : Int) (k : Nat) : Int := - lin (tS 30 k) (trip w)
def V9 : List Int := [1, 2, 3, 4, 5, 6, 7, 9, 12]
theorem trip_one (w : Int) : trips [w] = trip w := rfl
theorem sQ_one {w : Int} (hw : 1 ≤ w) {k : Nat} (hk : k < N) (hN : N ≤ 30) : - sQ N (pwr [w]) k = tL w k := by
  rw [sQ_lin, pwr_lin, trip_one]
  obtain ⟨s, rfl⟩ := Int.eq_ofNat_of_zero_le (show 0 ≤ w by omega)
  unfold tL trip
  simp only [lin_cons, lin_nil]
  have a := tS_N (k := k) (N := N) (s := s) (by omega) hk hN
  have b := tS_N (k := k) (N := N) (s := 2 * s) (by omega) hk hN
  have c := tS_N (k := k) (N := N) (s := 4 * s) (by omega) hk hN
  have e2 : ((2 * s : Nat) : Int) = 2 * (s : Int) := by omega
  have e4 : ((4 * s : Nat) : Int) = 4 * (s : Int) := by omega
  rw [e2] at b
  rw [e4] at c
  show - (tS N k (s : Int) * -2 + (tS N k (2 * (s : Int)) * 5 + (tS N k (4 * (s : Int)) * -2 + 0))) = - (tS 30 k (s : Int) * -2 + (tS 30 k (2 * (s : Int)) * 5 + (tS 30 k (4 * (s : Int)) * -2 + 0)))
  rw [a, b, c]
theorem th_chk : (V9.all fun w => (List.range 30).all fun n => decide (dd (th w.toNat) n = cv (tL w) (th w.toNat) n)) = true := by decide +kernel
theorem V9_b {w : Int} (h : w ∈ V9) : 1 ≤ w ∧ w ≤ 12 := by
  simp only [V9, List.mem_cons, List.not_mem_nil, or_false] at h
  omega
theorem row_one {w : Int} (h : w ∈ V9) (hN : N ≤ 30) : ∀ n, n < N → PF N (pwr [w]) n = th w.toNat n := by
  have wb := V9_b h
  have gp : Gp (pwr [w]) := pwr_g (fun x hx => by rw [List.mem_singleton] at hx; subst hx; exact wb) (by simp)
  refine ld_uniqN (s := fun k => - sQ N (pwr [w]) k) (t := tL w) (fun n _ => congrFun (PF_ld (N := N) gp) n) (fun n hn => ?_) (fun n hn => sQ_one wb.1 hn hN) (fun _ => neg_zero_sQ N _) fun _ => ?_
  · have c := List.all_eq_true.mp th_chk w h
    have c := List.all_eq_true.mp c n (List.mem_range.mpr (by omega))
    exact of_decide_eq_true c
  · rw [PF_zero gp hN]
    unfold th
    have z : W.TH w.toNat one 0 = one 0 := by
      unfold W.TH W.J
      have t : W.tm w.toNat one 0 0 = 0 := by
        unfold W.tm
        rw [if_neg (by simp; omega)]
      simp [sm, t]
    rw [z]; rfl
theorem row_pwr (hN : N ≤ 30) : ∀ ws : List Int, (∀ w ∈ ws, w ∈ V9) → ws.length ≤ 4 → ∀ n, n < N → PF N (pwr ws) n = W.WF (W.nn ws) n
  | [], _, _, n, hn => rfl
  | w :: r, h, l, n, hn => by
    rw [List.length_cons] at l
    have hw := h w List.mem_cons_self
    have hr : ∀ x ∈ r, x ∈ V9 := fun x hx => h x (List.mem_cons_of_mem _ hx)
    have g1 : Gp (pwr [w]) := pwr_g (fun x hx => by rw [List.mem_singleton] at hx; subst hx; exact V9_b hw) (by simp)
    have g2 : Gp (pwr r) := pwr_g (fun x hx => V9_b (hr x hx)) (by omega)
    have g3 : Gp (pwr (w :: r)) := pwr_g (fun x hx => V9_b (h x hx)) (by simp; omega)
    have e : both (pwr [w]) (pwr r) = pwr (w :: r) := both_pwr g1
    have pb := PF_both (N := N) hN g1 g2 (by rw [e]; exact g3)
    rw [e] at pb
    have i1 := row_one (N := N) hw hN
    have i2 := row_pwr hN r hr (by omega)
    rw [pb]
    have we : W.WF (W.nn (w :: r)) = cv (th w.toNat) (W.WF (W.nn r)) := WF_cons (w := w.toNat) (ws := W.nn r) fun x hx => by
      have hx : x ∈ W.nn (w :: r) := hx
      obtain ⟨y, hy, rfl⟩ := List.mem_map.mp hx
      have := V9_b (h y hy)
      omega
    rw [we]
    show sm (n + 1) _ = sm (n + 1) _
    exact sm_congr fun i hi => by rw [i1 i (by omega), i2 (n - i) (by omega)]
/-! ### rows times rows -/
theorem lrt_b1 {f g : Nat → Int} (hN : N ≤ 30) (hf : ∀ i, i < N → (f i).natAbs < 2 ^ 620) (hg : ∀ i, i < N → (g i).natAbs < 2 ^ 620) {k : Nat} (hk : k < N) (π : Pot) :
    B_law_rows_times_b1 [.dat (.list (rowI N f)), .dat (.list (rowI N g)), .own (rowI k (cv f g)), .dat (.int (k : Nat)), .un] π = some ([.dat (.list (rowI N f)), .dat (.list (rowI N g)), .own (rowI (k + 1) (cv f g)), .dat (.int (k : Nat)), .un], π, .nx) := by
  have Z := lcGo_rg (tg := gN 4) (tt := xYes) (el := xOp mulF (xOp ixF (xBo 0) (xBo 4)) (xOp ixF (xBo 1) (xOp subF (xBo 3) (xBo 4)))) (ρw := [.dat (.list (rowI N f)), .dat (.list (rowI N g)), .own (rowI k (cv f g)), .dat (.int (k : Nat)), .un]) (π := π) 0 (k + 1) (fun i => f i * g (k - i)) fun i hi => by
    have m := mulF_of (i := f i) (j := g (k - i)) (mulOk_of (a := 620) (b := 620) (hf i (by omega)) (hg (k - i) (by omega)))
    have a1 : atI (rowI N f) ((i : Nat) : Int) = some (.int (f i)) := by rw [rowI_at (by omega) (by omega)]; rfl
    have a2 : atI (rowI N g) ((k : Int) - (i : Int)) = some (.int (g (k - i))) := by
      rw [rowI_at (by omega) (by omega)]
      rw [show ((k : Int) - (i : Int)).toNat = k - i by omega]
    have z0 : (0 : Int) + (i : Int) = (i : Int) := by omega
    rw [z0]
    refine ⟨[.dat (.list (rowI N f)), .dat (.list (rowI N g)), .own (rowI k (cv f g)), .dat (.int (k : Nat)), .dat (.int (i : Nat))], rfl, rfl, ?_⟩
    generalize rowI N f = R1 at *
    generalize rowI N g = R2 at *
    generalize rowI k (cv f g) = R3 at *
    simp [m, a1, a2]
  have su := sumF_rowI (k + 1) fun i => f i * g (k - i)
  have cvd : sm (k + 1) (fun i => f i * g (k - i)) = cv f g k := rfl
  rw [cvd] at su
  have rs := rowI_succ k (cv f g)
  have ln : (rowI k (cv f g)).length < 100000 := by rw [rowI_length]; omega
  have rk : rgOk ((k : Int) + 1) = true := rgOk_mk (by omega) (by omega)
  have tn : ((k : Int) + 1).toNat = k + 1 := by omega
  rw [rs]
  generalize rowI (k + 1) (fun i => f i * g (k - i)) = R4 at *
  generalize rowI N f = R1 at *
  generalize rowI N g = R2 at *
  generalize rowI k (cv f g) = R3 at *
  generalize cv f g k = X at *
  have lr : (rg 0 (k + 1)).length ≤ 100000 := by rw [rg_length]; omega
  simp [B_law_rows_times_b1, rk, tn, Z, su, ln, lr, -lcGo, -sumF, -subF]
theorem law_rows_times_eq {f g : Nat → Int} (hN : N ≤ 30) (hf : ∀ i, i < N → (f i).natAbs < 2 ^ 620) (hg : ∀ i, i < N → (g i).natAbs < 2 ^ 620) : F_law_rows_times [.list (rowI N f), .list (rowI N g)] = some (.list (rowI N (cv f g))) := by
  have L := forGo_inv (tg := gN 3) (b := B_law_rows_times_b1) (fun i ρ π => π = [] ∧ ∃ c3 : FL.Slot, ρ = [.dat (.list (rowI N f)), .dat (.list (rowI N g)), .own (rowI i (cv f g)), c3, .un]) (rg 0 N) (by
    rintro i d ρ π hd ⟨rfl, c3, rfl⟩
    obtain ⟨li, rfl⟩ := rg_get hd
    have b := lrt_b1 hN hf hg li []
    rw [show ((0 : Int) + (i : Nat)) = (i : Nat) by omega]
    exact ⟨_, _, _, rfl, .inl b, rfl, _, rfl⟩) (ρ := [.dat (.list (rowI N f)), .dat (.list (rowI N g)), .own [], .un, .un]) (π := []) ⟨rfl, .un, rfl⟩
  obtain ⟨ρ', π', e, rfl, c3, rfl⟩ := L
  rw [rg_length] at e
  have ln1 : (rowI N f).length = N := rowI_length _ _
  have hn := rgOk_nat (N := N) (by omega)
  have tn : ((N : Nat) : Int).toNat = N := by omega
  have l1 : N ≤ 100000 := by omega
  generalize rowI N (cv f g) = R3 at *
  generalize rowI N f = R1 at *
  generalize rowI N g = R2 at *
  simp [F_law_rows_times, B_law_rows_times, ln1, hn, tn, l1, e, -forGo]
end K38

noncomputable section
namespace K38
open PySem PySem.Spec PyProof.Rows L2 EP FL
def S1 : Sx := (sPar3 1 2 3 (aCons (xCallP 0 F_law_weights (aCons (xC (.int 1)) (aCons (xC (.int 2)) aNil))) (aCons (xCallP 0 F_law_weights (aCons (xC (.int 1)) (aCons (xC (.int 2)) aNil))) (aCons (xOp addF (xC (.int 1)) (xCallP 0 F_law_draw (aCons (xC (.int 30)) aNil))) aNil))))
def S2 : Sx := (sPar 4 5 (aCons (xTup (aCons (xC (.str "squares")) (aCons (xVar 1) aNil))) (aCons (xTup (aCons (xC (.str "squares")) (aCons (xVar 2) aNil))) aNil)))
def S3 : Sx := (sPar 6 7 (aCons (xTup (aCons (xC (.str "product")) (aCons (xCb F_law_powers (aCons (xVar 1) aNil)) aNil))) (aCons (xCb F_law_row (aCons (xVar 1) (aCons (xVar 3) aNil))) aNil)))
def S4 : Sx := (sIf (xOr (xT (xOp (eqF true) (xCb reprF (aCons (xLst (aCons (xCb F_form_product (aCons (xVar 4) aNil)) (aCons (xCallK F_form_product (fun us ws => match us, ws with | [], [ws0] => [ws0] | _, _ => []) aNil (aCons (xVar 4) aNil)) aNil))) aNil)) (xCb reprF (aCons (xLst (aCons (xVar 6) (aCons (xVar 6) aNil))) aNil)))) (xT (xOp (eqF true) (xCb F_product_row (aCons (xVar 6) (aCons (xVar 3) aNil))) (xBo 7)))) (sRet (xC (.bool false))) sNext)
def S5 : Sx := (sAsg (xTup (aCons (xC (.str "squares")) (aCons (xCb tupleF (aCons (xCb sortXF (aCons (xOp addF (xBo 1) (xBo 2)) aNil)) aNil)) aNil))) (gN 8))
def S6 : Sx := (sIf (xT (xOp (eqF true) (xCb reprF (aCons (xLst (aCons (xCb F_joined (aCons (xVar 4) (aCons (xVar 5) aNil))) (aCons (xCallK F_joined (fun us ws => match us, ws with | [], [ws0, ws1] => [ws1, ws0] | _, _ => []) aNil (aCons (xVar 4) (aCons (xVar 5) aNil))) aNil))) aNil)) (xCb reprF (aCons (xLst (aCons (xVar 8) (aCons (xVar 8) aNil))) aNil)))) (sRet (xC (.bool false))) sNext)
def S7 : Sx := (sIf (xT (xOp (eqF true) (xCb F_ways_row (aCons (xVar 8) (aCons (xVar 3) aNil))) (xCb F_law_rows_times (aCons (xVar 7) (aCons (xCb F_law_row (aCons (xVar 2) (aCons (xVar 3) aNil))) aNil))))) (sRet (xC (.bool false))) sNext)
def S8 : Sx := (sAsg (xTup (aCons (xC (.str "product")) (aCons (xCb F_law_powers (aCons (xOp addF (xBo 1) (xBo 2)) aNil)) aNil))) (gN 9))
def S9 : Sx := (sIf (xT (xOp (eqF true) (xCb F_form_product (aCons (xTup (aCons (xC (.str "squares")) (aCons (xOp addF (xOp mul1F (xTup (aCons (xC (.int 1)) aNil)) (xC (.int 5))) (xOp mul1F (xTup (aCons (xC (.int 2)) aNil)) (xC (.int 2)))) aNil))) aNil)) (xTup (aCons (xC (.str "product")) (aCons (xTup (aCons (xTup (aCons (xC (.int 1)) (aCons (xUn negF (xC (.int 10))) aNil))) (aCons (xTup (aCons (xC (.int 2)) (aCons (xC (.int 21)) aNil))) (aCons (xTup (aCons (xC (.int 8)) (aCons (xUn negF (xC (.int 4))) aNil))) aNil)))) aNil))))) (sRet (xC (.bool false))) sNext)
def S10 : Sx := (sRet (xAndV (xChain (eqF false) (eqF false) (xCb F_form_product (aCons (xVar 8) aNil)) (xBo 9) (xCb F_product_times (aCons (xVar 6) (aCons (xCb F_form_product (aCons (xVar 5) aNil)) aNil)))) (xOp (eqF false) (xCb F_product_row (aCons (xVar 9) (aCons (xVar 3) aNil))) (xCb F_law_row (aCons (xOp addF (xBo 1) (xBo 2)) (aCons (xVar 3) aNil))))))
theorem right_parts : B_law_right = sSeq S1 (sSeq S2 (sSeq S3 (sSeq S4 (sSeq S5 (sSeq S6 (sSeq S7 (sSeq S8 (sSeq S9 (S10))))))))) := rfl
theorem seq_nx {a b : Sx} {ρ ρ1 : En} {π π1 : Pot} (h : a ρ π = some (ρ1, π1, .nx)) : sSeq a b ρ π = b ρ1 π1 := by
  unfold sSeq
  rw [h]; rfl
end K38

noncomputable section
namespace K38
open PySem PySem.Spec PyProof.Rows L2 EP FL PSr
variable {ps : Ps} {N : Nat}
theorem pot_true (ns : List Int) (hl : ns.length ≤ 63) : ∃ p0 p1, F_law_pot ns (.int 0) = some (.list [.int p0, .int p1]) ∧ 0 ≤ p0 := W.pot_true ns hl
theorem okEAll_of (f : Nat) : ∀ xs : List D, (∀ x ∈ xs, okE f x = true) → okEAll f xs = true
  | [], _ => by cases f <;> rfl
  | x :: xs, h => by
    have a := h x List.mem_cons_self
    have b := okEAll_of f xs fun y hy => h y (List.mem_cons_of_mem _ hy)
    cases f <;> (show (okE _ x && okEAll _ xs) = true; rw [a, b]; rfl)
theorem repr_of_ok {d : D} (h : repOk d = true) : ∃ s, reprF [d] = some (.str s) := by
  refine ⟨d.shown, ?_⟩
  unfold reprF
  split
  · rename_i c; cases c; rfl
  · rename_i c; cases c; rw [if_pos h]
  · rename_i c1 c2; exact (c2 d rfl).elim
theorem okE_int {f : Nat} {i : Int} (h : i.natAbs < 2 ^ 60) : okE f (.int i) = true := by
  have l : i.natAbs.log2 < 60 := log2Lt (by decide) h
  have : i.natAbs.log2 < 1900 := by omega
  cases f <;> simp [okE, this]
theorem nodes_le {c : Nat} : ∀ xs : List D, (∀ x ∈ xs, nodes x ≤ c) → nodesAll xs ≤ c * xs.length
  | [], _ => by simp [nodesAll]
  | x :: xs, h => by
    have a := h x List.mem_cons_self
    have b := nodes_le xs fun y hy => h y (List.mem_cons_of_mem _ hy)
    show nodes x + nodesAll xs ≤ c * (xs.length + 1)
    rw [Nat.mul_add]; omega
/-- two things as one -/
theorem repr_twice {d : D} {n : Nat} (h : okE 59 d = true) (hn : nodes d ≤ n) (n2 : n ≤ 2000) : ∃ s, reprF [.list [d, d]] = some (.str s) := by
  refine repr_of_ok ?_
  have a : okE 60 (.list [d, d]) = true := okEAll_of 59 _ fun x hx => by
    have : x = d := by simpa using hx
    rw [this]; exact h
  have b : nodes (.list [d, d]) ≤ 6000 := by
    simp [nodes, nodesAll]
    omega
  unfold repOk
  rw [a, decide_eq_true b]; rfl
theorem repr_pd2 (g : Gp ps) : ∃ s, reprF [.list [Pd ps, Pd ps]] = some (.str s) := by
  have each : ∀ x ∈ rowsP ps, okE 57 x = true ∧ nodes x ≤ 3 := fun x hx => by
    obtain ⟨q, hq, rfl⟩ := List.mem_map.mp hx
    have ok := g.ok q hq
    refine ⟨okEAll_of 56 _ fun y hy => ?_, ?_⟩
    · rcases List.mem_cons.mp hy with rfl | hy
      · exact okE_int (by omega)
      · rw [List.mem_singleton] at hy; subst hy; exact okE_int (by omega)
    · simp [nodes, nodesAll]
  have a1 : okE 58 (.tuple (rowsP ps)) = true := okEAll_of 57 _ fun x hx => (each x hx).1
  have a2 : okE 58 (.str "product") = true := by simp [okE]; decide +kernel
  have a3 : okE 59 (Pd ps) = true := okEAll_of 58 _ fun x hx => by
    rcases List.mem_cons.mp hx with rfl | hx
    · exact a2
    · rw [List.mem_singleton] at hx; subst hx; exact a1
  have n1 := nodes_le (rowsP ps) fun x hx => (each x hx).2
  rw [rowsP_length] at n1
  have l := g.len
  refine repr_twice a3 (n := 100) ?_ (by decide)
  show nodesAll [.str "product", .tuple (rowsP ps)] + 1 ≤ 100
  simp [nodesAll, nodes]
  omega
theorem repr_fd2 {ws : List Int} (g : W.Gi ws) : ∃ s, reprF [.list [W.Fd (W.nn ws), W.Fd (W.nn ws)]] = some (.str s) := by
  have each : ∀ x ∈ ws.map PyData.int, okE 57 x = true ∧ nodes x ≤ 1 := fun x hx => by
    obtain ⟨q, hq, rfl⟩ := List.mem_map.mp hx
    have ok := g.ok q hq
    exact ⟨okE_int (by omega), by simp [nodes]⟩
  have e : W.Fd (W.nn ws) = .tuple [.str "squares", .tuple (ws.map PyData.int)] := by
    unfold W.Fd
    rw [W.wsD_nn g.ok]
  have a1 : okE 58 (.tuple (ws.map PyData.int)) = true := okEAll_of 57 _ fun x hx => (each x hx).1
  have a2 : okE 58 (.str "squares") = true := by simp [okE]; decide +kernel
  have n1 := nodes_le (ws.map PyData.int) fun x hx => (each x hx).2
  rw [List.length_map] at n1
  have l := g.l1
  rw [e]
  refine repr_twice (okEAll_of 58 _ fun x hx => ?_) (n := 100) ?_ (by decide)
  · rcases List.mem_cons.mp hx with rfl | hx
    · exact a2
    · rw [List.mem_singleton] at hx; subst hx; exact a1
  · show nodesAll [.str "squares", .tuple (ws.map PyData.int)] + 1 ≤ 100
    simp [nodesAll, nodes]
    omega
theorem shp_pd (ps : Ps) : SeqAt.shaped (Pd ps) = true := by
  obtain ⟨a, b⟩ := shp_rowsA ps
  have d1 : (Pd ps).depth ≤ 64 := by
    unfold Pd
    simp [PyData.depth, PyData.depthAll]
    omega
  have c1 : (Pd ps).canLay0 = true := by
    unfold Pd
    simp [PyData.canLay0, PyData.canLayAll0, a]
    decide +kernel
  show ((Pd ps).canLay0 && decide ((Pd ps).depth ≤ 64)) = true
  rw [c1, decide_eq_true d1]; rfl
/-! ### forms together -/
theorem fd_eq {a : List Int} (h : ∀ w ∈ a, 1 ≤ w ∧ w ≤ 12) : PyData.tuple [.str "squares", .tuple (a.map PyData.int)] = W.Fd (W.nn a) := by
  unfold W.Fd
  rw [W.wsD_nn h]
structure Gv (a : List Int) : Prop where
  l0 : 1 ≤ a.length
  l1 : a.length ≤ 4
  ok : ∀ w ∈ a, w ∈ V9
theorem Gv.b {a : List Int} (g : Gv a) : ∀ w ∈ a, 1 ≤ w ∧ w ≤ 12 := fun w hw => V9_b (g.ok w hw)
theorem Gv.s {a : List Int} (g : Gv a) : Gv (sortI a) := by
  obtain ⟨p, s⟩ := sortI_spec a
  have := g.l0
  have := g.l1
  exact ⟨by rw [p.length_eq]; omega, by rw [p.length_eq]; omega, fun w hw => g.ok w (p.mem_iff.mp hw)⟩
theorem Gv.i {a : List Int} (g : Gv a) : W.Gi (sortI a) := by
  have gs := g.s
  have := gs.l1
  exact ⟨gs.l0, by omega, gs.b, (sortI_spec a).2⟩
theorem Gv.g {a : List Int} (g : Gv a) : Gp (pwr a) := pwr_g g.b g.l1
theorem trips_perm (g : Int → Int) {a b : List Int} (p : a.Perm b) : lin g (trips a) = lin g (trips b) := by
  induction p with
  | nil => rfl
  | cons x p ih =>
    show lin g (trip x ++ trips _) = lin g (trip x ++ trips _)
    rw [lin_app, lin_app, ih]
  | swap x y l =>
    show lin g (trip y ++ (trip x ++ trips l)) = lin g (trip x ++ (trip y ++ trips l))
    rw [lin_app, lin_app, lin_app, lin_app]; omega
  | trans p q i1 i2 => rw [i1, i2]
theorem pwr_sort (a : List Int) : pwr (sortI a) = pwr a := cn_uniq (pwr_cn _) (pwr_cn _) fun g => by
  rw [pwr_lin, pwr_lin]
  exact trips_perm g (sortI_spec a).1
theorem joined_eq {a b : List Int} (ga : W.Gi a) (gb : W.Gi b) (gv : Gv (a ++ b)) : F_joined [W.Fd (W.nn a), W.Fd (W.nn b)] = some (W.Fd (W.nn (sortI (a ++ b)))) := by
  have c1 := W.check_form_ok ga.f
  have c2 := W.check_form_ok gb.f
  have ka : ixF (W.Fd (W.nn a)) (.int 1) = some (.tuple (a.map PyData.int)) := by simp [W.Fd, W.wsD_nn ga.ok]
  have kb : ixF (W.Fd (W.nn b)) (.int 1) = some (.tuple (b.map PyData.int)) := by simp [W.Fd, W.wsD_nn gb.ok]
  have l4 := gv.l1
  rw [List.length_append] at l4
  have ad : addF (.tuple (a.map PyData.int)) (.tuple (b.map PyData.int)) = some (.tuple ((a ++ b).map PyData.int)) := by
    have la : (a.map PyData.int).length = a.length := List.length_map ..
    have lb : (b.map PyData.int).length = b.length := List.length_map ..
    have hl : (a.map PyData.int).length + (b.map PyData.int).length ≤ 100000 := by omega
    rw [List.map_append]
    generalize a.map PyData.int = A at *
    generalize b.map PyData.int = B at *
    simp [addF, hl]
  have so := sortXF_t (a ++ b)
  have gs := gv.s
  have ls := gs.l1
  have lm : ((sortI (a ++ b)).map PyData.int).length = (sortI (a ++ b)).length := List.length_map ..
  have l8 : ¬ ((8 : Int) < (((sortI (a ++ b)).map PyData.int).length : Int)) := by omega
  have l9 : ((sortI (a ++ b)).map PyData.int).length ≤ 100000 := by omega
  have fe := fd_eq gs.b
  rw [← fe]
  generalize (sortI (a ++ b)).map PyData.int = S at *
  generalize (a ++ b).map PyData.int = AB at *
  generalize a.map PyData.int = A at *
  generalize b.map PyData.int = B at *
  generalize W.Fd (W.nn a) = X at *
  generalize W.Fd (W.nn b) = Y at *
  simp [F_joined, B_joined, c1, c2, ka, kb, ad, so, l8, l9, tupleF, -ixF, -addF]
/-! ### the fixed form -/
def w7 : List Int := [1, 1, 1, 1, 1, 2, 2]
theorem w7_pwr : pwr w7 = [(1, -10), (2, 21), (8, -4)] := by decide +kernel
theorem w7_gp : Gp (pwr w7) := by
  rw [w7_pwr]
  exact ⟨by decide, by decide, by decide⟩
theorem w7_form : F_form_product [.tuple [.str "squares", .tuple [.int 1, .int 1, .int 1, .int 1, .int 1, .int 2, .int 2]]] = some (.tuple [.str "product", .tuple [.tuple [.int 1, .int (-10)], .tuple [.int 2, .int 21], .tuple [.int 8, .int (-4)]]]) := by
  have g : W.Gi w7 := ⟨by decide, by decide, by decide, by decide⟩
  have e := form_product_eq g w7_gp
  rw [w7_pwr] at e
  exact e
/-! ### rows -/
theorem WF_lt {a : List Int} (g : Gv a) (hN : N ≤ 30) : ∀ i, i < N → (W.WF (W.nn a) i).natAbs < 2 ^ 620 := fun i hi => by
  rw [← row_pwr hN a g.ok g.l1 i hi]
  exact PF_lt hN g.g (by omega)
theorem prow_eq {a : List Int} (g : Gv a) (hN : N ≤ 30) : F_product_row [Pd (pwr a), .int (N : Nat)] = some (.list (rowI N (W.WF (W.nn a)))) := by
  have e := product_row_eq g.g (check_product_ok g.g) hN
  have r : rowI N (PF N (pwr a)) = rowI N (W.WF (W.nn a)) := rowI_congr fun i hi => row_pwr hN a g.ok g.l1 i hi
  rw [r] at e
  exact e
theorem lrow_eq {a : List Int} (g : Gv a) (hN : N ≤ 30) : F_law_row [.tuple (a.map PyData.int), .int (N : Nat)] = some (.list (rowI N (W.WF (W.nn a)))) := by
  have gf : ∀ w ∈ W.nn a, 0 < w ∧ w ≤ 12 := fun w hw => by
    obtain ⟨x, hx, rfl⟩ := List.mem_map.mp hw
    have := g.b x hx
    omega
  have e := W.law_row_eq N (by omega) (W.nn a) gf
  rw [W.wsD_nn g.b] at e
  exact e
theorem WF_both {a b : List Int} (ga : Gv a) (gb : Gv b) : W.WF (W.nn (sortI (a ++ b))) = cv (W.WF (W.nn a)) (W.WF (W.nn b)) := by
  have pos : ∀ {l : List Int}, Gv l → ∀ x ∈ W.nn l, 0 < x := fun {l} g x hx => by
    obtain ⟨y, hy, rfl⟩ := List.mem_map.mp hx
    have := g.b y hy
    omega
  have p : (W.nn (sortI (a ++ b))).Perm (W.nn (a ++ b)) := (sortI_spec (a ++ b)).1.map _
  have e : W.nn (a ++ b) = W.nn a ++ W.nn b := List.map_append
  have h : ∀ x ∈ W.nn (sortI (a ++ b)), 0 < x := fun x hx => by
    have hx := p.mem_iff.mp hx
    rw [e, List.mem_append] at hx
    rcases hx with hx | hx
    · exact pos ga x hx
    · exact pos gb x hx
  rw [WF_perm p h, e, WF_app (pos gb)]
end K38

noncomputable section
namespace K38
open PySem PySem.Spec PyProof.Rows L2 EP FL
open PSr (sm sm_succ sm_congr Sr Ld cv one dv dd)
theorem gw_v {a : List Int} (g : W.Gw a) : Gv a := ⟨g.l0, by have := g.l1; omega, fun w hw => g.ok w hw⟩
theorem gw_i {a : List Int} (g : W.Gw a) : W.Gi a := ⟨g.l0, by have := g.l1; omega, (gw_v g).b, g.up⟩
theorem right_true (π : Pot) (h : PotOk π) : ∃ π', F_law_right π [] = some (.bool true, π') := by
  obtain ⟨a, π1, e1, p1, wa⟩ := W.law_weights_ok h
  obtain ⟨b, π2, e2, p2, wb⟩ := W.law_weights_ok p1
  obtain ⟨x, π3, e3, x0, x1, p3⟩ := draw_ok p2 (m := 30) (by decide) (by decide)
  obtain ⟨n, rfl⟩ := Int.eq_ofNat_of_zero_le x0
  obtain ⟨N, hN⟩ : ∃ N, N = n + 1 := ⟨_, rfl⟩
  have N30 : N ≤ 30 := by omega
  have eN : addF (.int 1) (.int (n : Nat)) = some (.int (N : Nat)) := by
    show some (PyData.int (1 + (n : Int))) = _
    congr 2; omega
  have ga := gw_v wa
  have gb := gw_v wb
  have ia := gw_i wa
  have ib := gw_i wb
  have la := wa.l1
  have lb := wb.l1
  have l0 := wa.l0
  have gab : Gv (a ++ b) := ⟨by rw [List.length_append]; omega, by rw [List.length_append]; omega, fun w hw => by
    rcases List.mem_append.mp hw with hw | hw
    · exact ga.ok w hw
    · exact gb.ok w hw⟩
  have gba : Gv (b ++ a) := ⟨by rw [List.length_append]; omega, by rw [List.length_append]; omega, fun w hw => by
    rcases List.mem_append.mp hw with hw | hw
    · exact gb.ok w hw
    · exact ga.ok w hw⟩
  have is := gab.i
  have fa := fd_eq ga.b
  have fb := fd_eq gb.b
  have fs := fd_eq gab.s.b
  have dP : ∀ P : Ps, (.tuple [.str "product", .tuple (rowsP P)] : D) = Pd P := fun P => rfl
  have pa := law_powers_eq ga.b (by omega)
  have pab := law_powers_eq gab.b (by rw [List.length_append]; omega)
  have ra := lrow_eq (N := N) ga N30
  have rb := lrow_eq (N := N) gb N30
  have rab := lrow_eq (N := N) gab N30
  have fpa := form_product_eq ia ga.g
  have fpb := form_product_eq ib gb.g
  have fps := form_product_eq is (by rw [pwr_sort]; exact gab.g)
  rw [pwr_sort] at fps
  obtain ⟨s1, q1⟩ := repr_pd2 ga.g
  have v1 : eqF true (.str s1) (.str s1) = some (.bool false) := by rw [eqS]; simp
  have pra := prow_eq (N := N) ga N30
  have prab := prow_eq (N := N) gab N30
  have sh1 := eqF_self true (shp_rowI N (W.WF (W.nn a)))
  have ad : addF (.tuple (a.map PyData.int)) (.tuple (b.map PyData.int)) = some (.tuple ((a ++ b).map PyData.int)) := by
    have la : (a.map PyData.int).length = a.length := List.length_map ..
    have lb : (b.map PyData.int).length = b.length := List.length_map ..
    have hl : (a.map PyData.int).length + (b.map PyData.int).length ≤ 100000 := by omega
    rw [List.map_append]
    generalize a.map PyData.int = A at *
    generalize b.map PyData.int = B at *
    simp [addF, hl]
  have so := sortXF_t (a ++ b)
  have lso : ((sortI (a ++ b)).map PyData.int).length ≤ 100000 := by
    rw [List.length_map, (sortI_spec (a ++ b)).1.length_eq, List.length_append]; omega
  have j1 := joined_eq ia ib gab
  have j2 := joined_eq ib ia gba
  have sc : sortI (b ++ a) = sortI (a ++ b) := by
    obtain ⟨k1, k2⟩ := sortI_spec (b ++ a)
    obtain ⟨k3, k4⟩ := sortI_spec (a ++ b)
    exact ((k1.trans List.perm_append_comm).trans k3.symm).eq_of_pairwise (fun _ _ _ _ h1 h2 => Int.le_antisymm h1 h2) k2 k4
  rw [sc] at j2
  obtain ⟨s2, q2⟩ := repr_fd2 is
  have v2 : eqF true (.str s2) (.str s2) = some (.bool false) := by rw [eqS]; simp
  have wy := W.ways_row_eq is.f (N := N) (by omega)
  rw [WF_both ga gb] at wy
  have lt := law_rows_times_eq (N := N) (f := W.WF (W.nn a)) (g := W.WF (W.nn b)) N30 (WF_lt ga N30) (WF_lt gb N30)
  have sh2 := eqF_self true (shp_rowI N (cv (W.WF (W.nn a)) (W.WF (W.nn b))))
  have bt := both_times ga.g gb.g (by rw [both_pwr ga.g]; exact gab.g)
  rw [both_pwr ga.g] at bt
  have sh3 := eqF_self false (shp_pd (pwr (a ++ b)))
  have sh4 := eqF_self false (shp_rowI N (W.WF (W.nn (a ++ b))))
  have m5 : mul1F (.tuple [.int 1]) (.int 5) = some (.tuple [.int 1, .int 1, .int 1, .int 1, .int 1]) := rfl
  have m2 : mul1F (.tuple [.int 2]) (.int 2) = some (.tuple [.int 2, .int 2]) := rfl
  have m7 : addF (.tuple [.int 1, .int 1, .int 1, .int 1, .int 1]) (.tuple [.int 2, .int 2]) = some (.tuple [.int 1, .int 1, .int 1, .int 1, .int 1, .int 2, .int 2]) := rfl
  have w7f := w7_form
  have sh7 : eqF true (.tuple [.str "product", .tuple [.tuple [.int 1, .int (-10)], .tuple [.int 2, .int 21], .tuple [.int 8, .int (-4)]]]) (.tuple [.str "product", .tuple [.tuple [.int 1, .int (-10)], .tuple [.int 2, .int 21], .tuple [.int 8, .int (-4)]]]) = some (.bool false) := by
    have := eqF_self true (shp_pd [(1, -10), (2, 21), (8, -4)])
    exact this
  refine ⟨π3, ?_⟩
  have hg : F_law_right π [] = outOf (B_law_right [.pot, .un, .un, .un, .un, .un, .un, .un, .un, .un] π) := rfl
  have c1 : S1 [.pot, .un, .un, .un, .un, .un, .un, .un, .un, .un] π = some ([.pot, .dat (.tuple (a.map PyData.int)), .dat (.tuple (b.map PyData.int)), .dat (.int (N : Nat)), .un, .un, .un, .un, .un, .un], π3, .nx) := by
    generalize a.map PyData.int = A at *
    generalize b.map PyData.int = B at *
    simp [S1, e1, e2, e3, eN, -addF]
  have c2 : S2 [.pot, .dat (.tuple (a.map PyData.int)), .dat (.tuple (b.map PyData.int)), .dat (.int (N : Nat)), .un, .un, .un, .un, .un, .un] π3 = some ([.pot, .dat (.tuple (a.map PyData.int)), .dat (.tuple (b.map PyData.int)), .dat (.int (N : Nat)), .dat (W.Fd (W.nn a)), .dat (W.Fd (W.nn b)), .un, .un, .un, .un], π3, .nx) := by
    generalize W.Fd (W.nn a) = X1 at *
    generalize W.Fd (W.nn b) = X2 at *
    generalize a.map PyData.int = A at *
    generalize b.map PyData.int = B at *
    simp [S2, fa, fb]
  have c3 : S3 [.pot, .dat (.tuple (a.map PyData.int)), .dat (.tuple (b.map PyData.int)), .dat (.int (N : Nat)), .dat (W.Fd (W.nn a)), .dat (W.Fd (W.nn b)), .un, .un, .un, .un] π3 = some ([.pot, .dat (.tuple (a.map PyData.int)), .dat (.tuple (b.map PyData.int)), .dat (.int (N : Nat)), .dat (W.Fd (W.nn a)), .dat (W.Fd (W.nn b)), .dat (Pd (pwr a)), .dat (.list (rowI N (W.WF (W.nn a)))), .un, .un], π3, .nx) := by
    have d := dP (pwr a)
    generalize rowsP (pwr a) = RP at *
    generalize Pd (pwr a) = X3 at *
    generalize rowI N (W.WF (W.nn a)) = R1 at *
    generalize W.Fd (W.nn a) = X1 at *
    generalize W.Fd (W.nn b) = X2 at *
    generalize a.map PyData.int = A at *
    generalize b.map PyData.int = B at *
    simp [S3, pa, ra, d]
  have c4 : S4 [.pot, .dat (.tuple (a.map PyData.int)), .dat (.tuple (b.map PyData.int)), .dat (.int (N : Nat)), .dat (W.Fd (W.nn a)), .dat (W.Fd (W.nn b)), .dat (Pd (pwr a)), .dat (.list (rowI N (W.WF (W.nn a)))), .un, .un] π3 = some ([.pot, .dat (.tuple (a.map PyData.int)), .dat (.tuple (b.map PyData.int)), .dat (.int (N : Nat)), .dat (W.Fd (W.nn a)), .dat (W.Fd (W.nn b)), .dat (Pd (pwr a)), .dat (.list (rowI N (W.WF (W.nn a)))), .un, .un], π3, .nx) := by
    generalize Pd (pwr a) = X3 at *
    generalize rowI N (W.WF (W.nn a)) = R1 at *
    generalize W.Fd (W.nn a) = X1 at *
    generalize W.Fd (W.nn b) = X2 at *
    generalize a.map PyData.int = A at *
    generalize b.map PyData.int = B at *
    simp [S4, fpa, q1, v1, pra, sh1, -reprF]
  have c5 : S5 [.pot, .dat (.tuple (a.map PyData.int)), .dat (.tuple (b.map PyData.int)), .dat (.int (N : Nat)), .dat (W.Fd (W.nn a)), .dat (W.Fd (W.nn b)), .dat (Pd (pwr a)), .dat (.list (rowI N (W.WF (W.nn a)))), .un, .un] π3 = some ([.pot, .dat (.tuple (a.map PyData.int)), .dat (.tuple (b.map PyData.int)), .dat (.int (N : Nat)), .dat (W.Fd (W.nn a)), .dat (W.Fd (W.nn b)), .dat (Pd (pwr a)), .dat (.list (rowI N (W.WF (W.nn a)))), .dat (W.Fd (W.nn (sortI (a ++ b)))), .un], π3, .nx) := by
    rw [← fs]
    generalize Pd (pwr a) = X3 at *
    generalize rowI N (W.WF (W.nn a)) = R1 at *
    generalize W.Fd (W.nn a) = X1 at *
    generalize W.Fd (W.nn b) = X2 at *
    generalize (sortI (a ++ b)).map PyData.int = S at *
    generalize (a ++ b).map PyData.int = AB at *
    generalize a.map PyData.int = A at *
    generalize b.map PyData.int = B at *
    simp [S5, ad, so, lso, tupleF, -addF]
  have c6 : S6 [.pot, .dat (.tuple (a.map PyData.int)), .dat (.tuple (b.map PyData.int)), .dat (.int (N : Nat)), .dat (W.Fd (W.nn a)), .dat (W.Fd (W.nn b)), .dat (Pd (pwr a)), .dat (.list (rowI N (W.WF (W.nn a)))), .dat (W.Fd (W.nn (sortI (a ++ b)))), .un] π3 = some ([.pot, .dat (.tuple (a.map PyData.int)), .dat (.tuple (b.map PyData.int)), .dat (.int (N : Nat)), .dat (W.Fd (W.nn a)), .dat (W.Fd (W.nn b)), .dat (Pd (pwr a)), .dat (.list (rowI N (W.WF (W.nn a)))), .dat (W.Fd (W.nn (sortI (a ++ b)))), .un], π3, .nx) := by
    generalize W.Fd (W.nn (sortI (a ++ b))) = X5 at *
    generalize Pd (pwr a) = X3 at *
    generalize rowI N (W.WF (W.nn a)) = R1 at *
    generalize W.Fd (W.nn a) = X1 at *
    generalize W.Fd (W.nn b) = X2 at *
    generalize a.map PyData.int = A at *
    generalize b.map PyData.int = B at *
    simp [S6, j1, j2, q2, v2, -reprF]
  have c7 : S7 [.pot, .dat (.tuple (a.map PyData.int)), .dat (.tuple (b.map PyData.int)), .dat (.int (N : Nat)), .dat (W.Fd (W.nn a)), .dat (W.Fd (W.nn b)), .dat (Pd (pwr a)), .dat (.list (rowI N (W.WF (W.nn a)))), .dat (W.Fd (W.nn (sortI (a ++ b)))), .un] π3 = some ([.pot, .dat (.tuple (a.map PyData.int)), .dat (.tuple (b.map PyData.int)), .dat (.int (N : Nat)), .dat (W.Fd (W.nn a)), .dat (W.Fd (W.nn b)), .dat (Pd (pwr a)), .dat (.list (rowI N (W.WF (W.nn a)))), .dat (W.Fd (W.nn (sortI (a ++ b)))), .un], π3, .nx) := by
    generalize rowI N (cv (W.WF (W.nn a)) (W.WF (W.nn b))) = R3 at *
    generalize W.Fd (W.nn (sortI (a ++ b))) = X5 at *
    generalize Pd (pwr a) = X3 at *
    generalize rowI N (W.WF (W.nn a)) = R1 at *
    generalize rowI N (W.WF (W.nn b)) = R2 at *
    generalize W.Fd (W.nn a) = X1 at *
    generalize W.Fd (W.nn b) = X2 at *
    generalize a.map PyData.int = A at *
    generalize b.map PyData.int = B at *
    simp [S7, wy, rb, lt, sh2]
  have c8 : S8 [.pot, .dat (.tuple (a.map PyData.int)), .dat (.tuple (b.map PyData.int)), .dat (.int (N : Nat)), .dat (W.Fd (W.nn a)), .dat (W.Fd (W.nn b)), .dat (Pd (pwr a)), .dat (.list (rowI N (W.WF (W.nn a)))), .dat (W.Fd (W.nn (sortI (a ++ b)))), .un] π3 = some ([.pot, .dat (.tuple (a.map PyData.int)), .dat (.tuple (b.map PyData.int)), .dat (.int (N : Nat)), .dat (W.Fd (W.nn a)), .dat (W.Fd (W.nn b)), .dat (Pd (pwr a)), .dat (.list (rowI N (W.WF (W.nn a)))), .dat (W.Fd (W.nn (sortI (a ++ b)))), .dat (Pd (pwr (a ++ b)))], π3, .nx) := by
    have d := dP (pwr (a ++ b))
    generalize rowsP (pwr (a ++ b)) = RP at *
    generalize Pd (pwr (a ++ b)) = X4 at *
    generalize W.Fd (W.nn (sortI (a ++ b))) = X5 at *
    generalize Pd (pwr a) = X3 at *
    generalize rowI N (W.WF (W.nn a)) = R1 at *
    generalize W.Fd (W.nn a) = X1 at *
    generalize W.Fd (W.nn b) = X2 at *
    generalize (a ++ b).map PyData.int = AB at *
    generalize a.map PyData.int = A at *
    generalize b.map PyData.int = B at *
    simp [S8, ad, pab, d, -addF]
  have c9 : S9 [.pot, .dat (.tuple (a.map PyData.int)), .dat (.tuple (b.map PyData.int)), .dat (.int (N : Nat)), .dat (W.Fd (W.nn a)), .dat (W.Fd (W.nn b)), .dat (Pd (pwr a)), .dat (.list (rowI N (W.WF (W.nn a)))), .dat (W.Fd (W.nn (sortI (a ++ b)))), .dat (Pd (pwr (a ++ b)))] π3 = some ([.pot, .dat (.tuple (a.map PyData.int)), .dat (.tuple (b.map PyData.int)), .dat (.int (N : Nat)), .dat (W.Fd (W.nn a)), .dat (W.Fd (W.nn b)), .dat (Pd (pwr a)), .dat (.list (rowI N (W.WF (W.nn a)))), .dat (W.Fd (W.nn (sortI (a ++ b)))), .dat (Pd (pwr (a ++ b)))], π3, .nx) := by
    generalize Pd (pwr (a ++ b)) = X4 at *
    generalize W.Fd (W.nn (sortI (a ++ b))) = X5 at *
    generalize Pd (pwr a) = X3 at *
    generalize rowI N (W.WF (W.nn a)) = R1 at *
    generalize W.Fd (W.nn a) = X1 at *
    generalize W.Fd (W.nn b) = X2 at *
    generalize a.map PyData.int = A at *
    generalize b.map PyData.int = B at *
    simp [S9, m5, m2, m7, w7f, sh7, -addF, -mul1F]
  have c10 : S10 [.pot, .dat (.tuple (a.map PyData.int)), .dat (.tuple (b.map PyData.int)), .dat (.int (N : Nat)), .dat (W.Fd (W.nn a)), .dat (W.Fd (W.nn b)), .dat (Pd (pwr a)), .dat (.list (rowI N (W.WF (W.nn a)))), .dat (W.Fd (W.nn (sortI (a ++ b)))), .dat (Pd (pwr (a ++ b)))] π3 = some ([.pot, .dat (.tuple (a.map PyData.int)), .dat (.tuple (b.map PyData.int)), .dat (.int (N : Nat)), .dat (W.Fd (W.nn a)), .dat (W.Fd (W.nn b)), .dat (Pd (pwr a)), .dat (.list (rowI N (W.WF (W.nn a)))), .dat (W.Fd (W.nn (sortI (a ++ b)))), .dat (Pd (pwr (a ++ b)))], π3, .rt (.bool true)) := by
    generalize Pd (pwr (a ++ b)) = X4 at *
    generalize W.Fd (W.nn (sortI (a ++ b))) = X5 at *
    generalize Pd (pwr a) = X3 at *
    generalize Pd (pwr b) = X6 at *
    generalize rowI N (W.WF (W.nn (a ++ b))) = R4 at *
    generalize rowI N (W.WF (W.nn a)) = R1 at *
    generalize W.Fd (W.nn a) = X1 at *
    generalize W.Fd (W.nn b) = X2 at *
    generalize (a ++ b).map PyData.int = AB at *
    generalize a.map PyData.int = A at *
    generalize b.map PyData.int = B at *
    simp [S10, fps, fpb, bt, sh3, prab, ad, rab, sh4, -addF]
  rw [hg, right_parts, seq_nx c1, seq_nx c2, seq_nx c3, seq_nx c4, seq_nx c5, seq_nx c6, seq_nx c7, seq_nx c8, seq_nx c9, c10]
  rfl
end K38

noncomputable section
namespace K38
open PySem PySem.Spec PyProof.Rows L2 EP FL
section
variable {P : Program} {w : World} {K : PySem.W.Frag} {mg : Str → Option Value} {base : Heap}

def spLaw (K : PySem.W.Frag) : Sp := fun vs H Q _ => ∃ (a : Addr) (ns : List Int), vs = [.ref a] ∧ SqL K H a (ns.map V.int) ∧ ns.length ≤ 63 ∧ ∀ H', Q (.bl true) H'
theorem ok_law (T : Tx K mg) : GOk P w K mg base 8 T.f_law T.fd_law ["script"] (spLaw K) := by
  have G_law_right := ok_law_right (P := P) (w := w) (base := base) T
  have G_law_pot := ok_law_pot (P := P) (w := w) (base := base) T
  refine gok T.F_law sc_law (fun vs H Q E h => ?_) (fun cdv A outer s H vs Q hg hr h => ?_)
  · obtain ⟨a, ns, rfl, _⟩ := h
    rfl
  · obtain ⟨a, ns, rfl, hS, hl, q⟩ := h
    refine ⟨_, (pss_one (ps_ret (pe_gcall (by exact hg) G_law_right (hr.mono (by decide)) (by rfl) T.m_law_right T.F_law_right.kp T.b_law_right (pa_cons (pe_call G_law_pot (hr.mono (by decide)) (by rfl) T.m_law_pot T.F_law_pot.kp T.b_law_pot .nil pass0 (pa_cons (pv 0) (pa_cons pe_int pa_nil))) pa_nil)))), ?_⟩
    obtain ⟨p0, p1, er0, h0⟩ := pot_true ns hl
    refine ⟨.ref a, rfl, a, ns, 0, _, rfl, hS, er0, fun v H1 k1 dn => ?_⟩
    obtain ⟨p, xs, ds, rfl, ed, np, ep, _, dd⟩ := dn
    cases ed
    obtain rfl := dvInts (ns := [p0, p1]) dd
    obtain ⟨π', er⟩ := right_true [p0, p1] ⟨p0, p1, rfl, h0⟩
    refine ⟨fun b => b = p, p, [], [p0, p1], [], _, π', rfl, (fun b z => by rw [z, ep]; intro y; cases y), rfl, ep, trivial, er, fun v H' _ _ dv => ?_⟩
    rw [if_neg (by decide)] at dv
    cases dv
    exact q H'
end
theorem all_mk {l : PySem.W.OpenLaw} {w : World} {K : PySem.W.Frag} {h : Heap} {mg : Str → Option Value} {fa f1 f2 f3 f4 f5 f6 f7 f8 f9 f10 f11 f12 f13 f14 f15 f16 f17 f18 f19 f20 f21 f22 f23 f24 f25 f26 f27 f28 f29 f30 f31 f32 f33 : Addr} (X : K.In h) (G : h.Ns mainGlobals mg) (hfa : mg "law" = some (.ref fa))
    {od1 an1 : Option Addr} {sl1 : Array (Option Value)} {oc1 kV1 dc1 pm1 cd1 ct1 : Value}
    {od2 an2 : Option Addr} {sl2 : Array (Option Value)} {oc2 kV2 dc2 pm2 cd2 ct2 : Value}
    {od3 an3 : Option Addr} {sl3 : Array (Option Value)} {oc3 kV3 dc3 pm3 cd3 ct3 : Value}
    {od4 an4 : Option Addr} {sl4 : Array (Option Value)} {oc4 kV4 dc4 pm4 cd4 ct4 : Value}
    {od5 an5 : Option Addr} {sl5 : Array (Option Value)} {oc5 kV5 dc5 pm5 cd5 ct5 : Value}
    {od6 an6 : Option Addr} {sl6 : Array (Option Value)} {oc6 kV6 dc6 pm6 cd6 ct6 : Value}
    {od7 an7 : Option Addr} {sl7 : Array (Option Value)} {oc7 kV7 dc7 pm7 cd7 ct7 : Value}
    {od8 an8 : Option Addr} {sl8 : Array (Option Value)} {oc8 kV8 dc8 pm8 cd8 ct8 : Value}
    {od9 an9 : Option Addr} {sl9 : Array (Option Value)} {oc9 kV9 dc9 pm9 cd9 ct9 : Value}
    {od10 an10 : Option Addr} {sl10 : Array (Option Value)} {oc10 kV10 dc10 pm10 cd10 ct10 : Value}
    {od11 an11 : Option Addr} {sl11 : Array (Option Value)} {oc11 kV11 dc11 pm11 cd11 ct11 : Value}
    {od12 an12 : Option Addr} {sl12 : Array (Option Value)} {oc12 kV12 dc12 pm12 cd12 ct12 : Value}
    {od13 an13 : Option Addr} {sl13 : Array (Option Value)} {oc13 kV13 dc13 pm13 cd13 ct13 : Value}
    {od14 an14 : Option Addr} {sl14 : Array (Option Value)} {oc14 kV14 dc14 pm14 cd14 ct14 : Value}
    {od15 an15 : Option Addr} {sl15 : Array (Option Value)} {oc15 kV15 dc15 pm15 cd15 ct15 : Value}
    {od16 an16 : Option Addr} {sl16 : Array (Option Value)} {oc16 kV16 dc16 pm16 cd16 ct16 : Value}
    {od17 an17 : Option Addr} {sl17 : Array (Option Value)} {oc17 kV17 dc17 pm17 cd17 ct17 : Value}
    {od18 an18 : Option Addr} {sl18 : Array (Option Value)} {oc18 kV18 dc18 pm18 cd18 ct18 : Value}
    {od19 an19 : Option Addr} {sl19 : Array (Option Value)} {oc19 kV19 dc19 pm19 cd19 ct19 : Value}
    {od20 an20 : Option Addr} {sl20 : Array (Option Value)} {oc20 kV20 dc20 pm20 cd20 ct20 : Value}
    {od21 an21 : Option Addr} {sl21 : Array (Option Value)} {oc21 kV21 dc21 pm21 cd21 ct21 : Value}
    {od22 an22 : Option Addr} {sl22 : Array (Option Value)} {oc22 kV22 dc22 pm22 cd22 ct22 : Value}
    {od23 an23 : Option Addr} {sl23 : Array (Option Value)} {oc23 kV23 dc23 pm23 cd23 ct23 : Value}
    {od24 an24 : Option Addr} {sl24 : Array (Option Value)} {oc24 kV24 dc24 pm24 cd24 ct24 : Value}
    {od25 an25 : Option Addr} {sl25 : Array (Option Value)} {oc25 kV25 dc25 pm25 cd25 ct25 : Value}
    {od26 an26 : Option Addr} {sl26 : Array (Option Value)} {oc26 kV26 dc26 pm26 cd26 ct26 : Value}
    {od27 an27 : Option Addr} {sl27 : Array (Option Value)} {oc27 kV27 dc27 pm27 cd27 ct27 : Value}
    {od28 an28 : Option Addr} {sl28 : Array (Option Value)} {oc28 kV28 dc28 pm28 cd28 ct28 : Value}
    {od29 an29 : Option Addr} {sl29 : Array (Option Value)} {oc29 kV29 dc29 pm29 cd29 ct29 : Value}
    {od30 an30 : Option Addr} {sl30 : Array (Option Value)} {oc30 kV30 dc30 pm30 cd30 ct30 : Value}
    {od31 an31 : Option Addr} {sl31 : Array (Option Value)} {oc31 kV31 dc31 pm31 cd31 ct31 : Value}
    {od32 an32 : Option Addr} {sl32 : Array (Option Value)} {oc32 kV32 dc32 pm32 cd32 ct32 : Value}
    {od33 an33 : Option Addr} {sl33 : Array (Option Value)} {oc33 kV33 dc33 pm33 cd33 ct33 : Value}
    (a1 : PySem.W.nsIn K mainGlobals "is_integer" = some (some (.ref f1))) (l1 : K.lookup f1 = some ⟨oc1, od1, .func (PySem.W.fnOf "is_integer" "is_integer" (defArgs s_is_integer) (defBody s_is_integer) (defScope s_is_integer) .none kV1 dc1 pm1 an1 cd1 ct1), sl1⟩) (c1 : PySem.W.codeIn K cd1 "is_integer" = true) (k1 : PySem.W.keepIn K (.ref f1) = true)
    (a2 : PySem.W.nsIn K mainGlobals "is_within" = some (some (.ref f2))) (l2 : K.lookup f2 = some ⟨oc2, od2, .func (PySem.W.fnOf "is_within" "is_within" (defArgs s_is_within) (defBody s_is_within) (defScope s_is_within) .none kV2 dc2 pm2 an2 cd2 ct2), sl2⟩) (c2 : PySem.W.codeIn K cd2 "is_within" = true) (k2 : PySem.W.keepIn K (.ref f2) = true)
    (a3 : PySem.W.nsIn K mainGlobals "is_tagged" = some (some (.ref f3))) (l3 : K.lookup f3 = some ⟨oc3, od3, .func (PySem.W.fnOf "is_tagged" "is_tagged" (defArgs s_is_tagged) (defBody s_is_tagged) (defScope s_is_tagged) .none kV3 dc3 pm3 an3 cd3 ct3), sl3⟩) (c3 : PySem.W.codeIn K cd3 "is_tagged" = true) (k3 : PySem.W.keepIn K (.ref f3) = true)
    (a4 : PySem.W.nsIn K mainGlobals "is_pair" = some (some (.ref f4))) (l4 : K.lookup f4 = some ⟨oc4, od4, .func (PySem.W.fnOf "is_pair" "is_pair" (defArgs s_is_pair) (defBody s_is_pair) (defScope s_is_pair) .none kV4 dc4 pm4 an4 cd4 ct4), sl4⟩) (c4 : PySem.W.codeIn K cd4 "is_pair" = true) (k4 : PySem.W.keepIn K (.ref f4) = true)
    (a5 : PySem.W.nsIn K mainGlobals "is_rising" = some (some (.ref f5))) (l5 : K.lookup f5 = some ⟨oc5, od5, .func (PySem.W.fnOf "is_rising" "is_rising" (defArgs s_is_rising) (defBody s_is_rising) (defScope s_is_rising) .none kV5 dc5 pm5 an5 cd5 ct5), sl5⟩) (c5 : PySem.W.codeIn K cd5 "is_rising" = true) (k5 : PySem.W.keepIn K (.ref f5) = true)
    (a6 : PySem.W.nsIn K mainGlobals "check_many" = some (some (.ref f6))) (l6 : K.lookup f6 = some ⟨oc6, od6, .func (PySem.W.fnOf "check_many" "check_many" (defArgs s_check_many) (defBody s_check_many) (defScope s_check_many) .none kV6 dc6 pm6 an6 cd6 ct6), sl6⟩) (c6 : PySem.W.codeIn K cd6 "check_many" = true) (k6 : PySem.W.keepIn K (.ref f6) = true)
    (a7 : PySem.W.nsIn K mainGlobals "check_digits" = some (some (.ref f7))) (l7 : K.lookup f7 = some ⟨oc7, od7, .func (PySem.W.fnOf "check_digits" "check_digits" (defArgs s_check_digits) (defBody s_check_digits) (defScope s_check_digits) .none kV7 dc7 pm7 an7 cd7 ct7), sl7⟩) (c7 : PySem.W.codeIn K cd7 "check_digits" = true) (k7 : PySem.W.keepIn K (.ref f7) = true)
    (a8 : PySem.W.nsIn K mainGlobals "is_product" = some (some (.ref f8))) (l8 : K.lookup f8 = some ⟨oc8, od8, .func (PySem.W.fnOf "is_product" "is_product" (defArgs s_is_product) (defBody s_is_product) (defScope s_is_product) .none kV8 dc8 pm8 an8 cd8 ct8), sl8⟩) (c8 : PySem.W.codeIn K cd8 "is_product" = true) (k8 : PySem.W.keepIn K (.ref f8) = true)
    (a9 : PySem.W.nsIn K mainGlobals "is_step_power" = some (some (.ref f9))) (l9 : K.lookup f9 = some ⟨oc9, od9, .func (PySem.W.fnOf "is_step_power" "is_step_power" (defArgs s_is_step_power) (defBody s_is_step_power) (defScope s_is_step_power) .none kV9 dc9 pm9 an9 cd9 ct9), sl9⟩) (c9 : PySem.W.codeIn K cd9 "is_step_power" = true) (k9 : PySem.W.keepIn K (.ref f9) = true)
    (a10 : PySem.W.nsIn K mainGlobals "check_product" = some (some (.ref f10))) (l10 : K.lookup f10 = some ⟨oc10, od10, .func (PySem.W.fnOf "check_product" "check_product" (defArgs s_check_product) (defBody s_check_product) (defScope s_check_product) .none kV10 dc10 pm10 an10 cd10 ct10), sl10⟩) (c10 : PySem.W.codeIn K cd10 "check_product" = true) (k10 : PySem.W.keepIn K (.ref f10) = true)
    (a11 : PySem.W.nsIn K mainGlobals "product_of" = some (some (.ref f11))) (l11 : K.lookup f11 = some ⟨oc11, od11, .func (PySem.W.fnOf "product_of" "product_of" (defArgs s_product_of) (defBody s_product_of) (defScope s_product_of) .none kV11 dc11 pm11 an11 cd11 ct11), sl11⟩) (c11 : PySem.W.codeIn K cd11 "product_of" = true) (k11 : PySem.W.keepIn K (.ref f11) = true)
    (a12 : PySem.W.nsIn K mainGlobals "product_times" = some (some (.ref f12))) (l12 : K.lookup f12 = some ⟨oc12, od12, .func (PySem.W.fnOf "product_times" "product_times" (defArgs s_product_times) (defBody s_product_times) (defScope s_product_times) .none kV12 dc12 pm12 an12 cd12 ct12), sl12⟩) (c12 : PySem.W.codeIn K cd12 "product_times" = true) (k12 : PySem.W.keepIn K (.ref f12) = true)
    (a13 : PySem.W.nsIn K mainGlobals "is_form" = some (some (.ref f13))) (l13 : K.lookup f13 = some ⟨oc13, od13, .func (PySem.W.fnOf "is_form" "is_form" (defArgs s_is_form) (defBody s_is_form) (defScope s_is_form) .none kV13 dc13 pm13 an13 cd13 ct13), sl13⟩) (c13 : PySem.W.codeIn K cd13 "is_form" = true) (k13 : PySem.W.keepIn K (.ref f13) = true)
    (a14 : PySem.W.nsIn K mainGlobals "check_form" = some (some (.ref f14))) (l14 : K.lookup f14 = some ⟨oc14, od14, .func (PySem.W.fnOf "check_form" "check_form" (defArgs s_check_form) (defBody s_check_form) (defScope s_check_form) .none kV14 dc14 pm14 an14 cd14 ct14), sl14⟩) (c14 : PySem.W.codeIn K cd14 "check_form" = true) (k14 : PySem.W.keepIn K (.ref f14) = true)
    (a15 : PySem.W.nsIn K mainGlobals "row_of_ways" = some (some (.ref f15))) (l15 : K.lookup f15 = some ⟨oc15, od15, .func (PySem.W.fnOf "row_of_ways" "row_of_ways" (defArgs s_row_of_ways) (defBody s_row_of_ways) (defScope s_row_of_ways) .none kV15 dc15 pm15 an15 cd15 ct15), sl15⟩) (c15 : PySem.W.codeIn K cd15 "row_of_ways" = true) (k15 : PySem.W.keepIn K (.ref f15) = true)
    (a16 : PySem.W.nsIn K mainGlobals "weight_joined" = some (some (.ref f16))) (l16 : K.lookup f16 = some ⟨oc16, od16, .func (PySem.W.fnOf "weight_joined" "weight_joined" (defArgs s_weight_joined) (defBody s_weight_joined) (defScope s_weight_joined) .none kV16 dc16 pm16 an16 cd16 ct16), sl16⟩) (c16 : PySem.W.codeIn K cd16 "weight_joined" = true) (k16 : PySem.W.keepIn K (.ref f16) = true)
    (a17 : PySem.W.nsIn K mainGlobals "ways_row" = some (some (.ref f17))) (l17 : K.lookup f17 = some ⟨oc17, od17, .func (PySem.W.fnOf "ways_row" "ways_row" (defArgs s_ways_row) (defBody s_ways_row) (defScope s_ways_row) .none kV17 dc17 pm17 an17 cd17 ct17), sl17⟩) (c17 : PySem.W.codeIn K cd17 "ways_row" = true) (k17 : PySem.W.keepIn K (.ref f17) = true)
    (a18 : PySem.W.nsIn K mainGlobals "form_product" = some (some (.ref f18))) (l18 : K.lookup f18 = some ⟨oc18, od18, .func (PySem.W.fnOf "form_product" "form_product" (defArgs s_form_product) (defBody s_form_product) (defScope s_form_product) .none kV18 dc18 pm18 an18 cd18 ct18), sl18⟩) (c18 : PySem.W.codeIn K cd18 "form_product" = true) (k18 : PySem.W.keepIn K (.ref f18) = true)
    (a19 : PySem.W.nsIn K mainGlobals "joined" = some (some (.ref f19))) (l19 : K.lookup f19 = some ⟨oc19, od19, .func (PySem.W.fnOf "joined" "joined" (defArgs s_joined) (defBody s_joined) (defScope s_joined) .none kV19 dc19 pm19 an19 cd19 ct19), sl19⟩) (c19 : PySem.W.codeIn K cd19 "joined" = true) (k19 : PySem.W.keepIn K (.ref f19) = true)
    (a20 : PySem.W.nsIn K mainGlobals "row_by_powers" = some (some (.ref f20))) (l20 : K.lookup f20 = some ⟨oc20, od20, .func (PySem.W.fnOf "row_by_powers" "row_by_powers" (defArgs s_row_by_powers) (defBody s_row_by_powers) (defScope s_row_by_powers) .none kV20 dc20 pm20 an20 cd20 ct20), sl20⟩) (c20 : PySem.W.codeIn K cd20 "row_by_powers" = true) (k20 : PySem.W.keepIn K (.ref f20) = true)
    (a21 : PySem.W.nsIn K mainGlobals "sums_of" = some (some (.ref f21))) (l21 : K.lookup f21 = some ⟨oc21, od21, .func (PySem.W.fnOf "sums_of" "sums_of" (defArgs s_sums_of) (defBody s_sums_of) (defScope s_sums_of) .none kV21 dc21 pm21 an21 cd21 ct21), sl21⟩) (c21 : PySem.W.codeIn K cd21 "sums_of" = true) (k21 : PySem.W.keepIn K (.ref f21) = true)
    (a22 : PySem.W.nsIn K mainGlobals "product_row" = some (some (.ref f22))) (l22 : K.lookup f22 = some ⟨oc22, od22, .func (PySem.W.fnOf "product_row" "product_row" (defArgs s_product_row) (defBody s_product_row) (defScope s_product_row) .none kV22 dc22 pm22 an22 cd22 ct22), sl22⟩) (c22 : PySem.W.codeIn K cd22 "product_row" = true) (k22 : PySem.W.keepIn K (.ref f22) = true)
    (a23 : PySem.W.nsIn K mainGlobals "numbers_of" = some (some (.ref f23))) (l23 : K.lookup f23 = some ⟨oc23, od23, .func (PySem.W.fnOf "numbers_of" "numbers_of" (defArgs s_numbers_of) (defBody s_numbers_of) (defScope s_numbers_of) .none kV23 dc23 pm23 an23 cd23 ct23), sl23⟩) (c23 : PySem.W.codeIn K cd23 "numbers_of" = true) (k23 : PySem.W.keepIn K (.ref f23) = true)
    (a24 : PySem.W.nsIn K mainGlobals "_law_pot" = some (some (.ref f24))) (l24 : K.lookup f24 = some ⟨oc24, od24, .func (PySem.W.fnOf "_law_pot" "_law_pot" (defArgs s_law_pot) (defBody s_law_pot) (defScope s_law_pot) .none kV24 dc24 pm24 an24 cd24 ct24), sl24⟩) (c24 : PySem.W.codeIn K cd24 "_law_pot" = true) (k24 : PySem.W.keepIn K (.ref f24) = true)
    (a25 : PySem.W.nsIn K mainGlobals "_law_draw" = some (some (.ref f25))) (l25 : K.lookup f25 = some ⟨oc25, od25, .func (PySem.W.fnOf "_law_draw" "_law_draw" (defArgs s_law_draw) (defBody s_law_draw) (defScope s_law_draw) .none kV25 dc25 pm25 an25 cd25 ct25), sl25⟩) (c25 : PySem.W.codeIn K cd25 "_law_draw" = true) (k25 : PySem.W.keepIn K (.ref f25) = true)
    (a26 : PySem.W.nsIn K mainGlobals "_law_pick" = some (some (.ref f26))) (l26 : K.lookup f26 = some ⟨oc26, od26, .func (PySem.W.fnOf "_law_pick" "_law_pick" (defArgs s_law_pick) (defBody s_law_pick) (defScope s_law_pick) .none kV26 dc26 pm26 an26 cd26 ct26), sl26⟩) (c26 : PySem.W.codeIn K cd26 "_law_pick" = true) (k26 : PySem.W.keepIn K (.ref f26) = true)
    (a27 : PySem.W.nsIn K mainGlobals "_law_most" = some (some (.ref f27))) (l27 : K.lookup f27 = some ⟨oc27, od27, .func (PySem.W.fnOf "_law_most" "_law_most" (defArgs s_law_most) (defBody s_law_most) (defScope s_law_most) .none kV27 dc27 pm27 an27 cd27 ct27), sl27⟩) (c27 : PySem.W.codeIn K cd27 "_law_most" = true) (k27 : PySem.W.keepIn K (.ref f27) = true)
    (a28 : PySem.W.nsIn K mainGlobals "_law_row" = some (some (.ref f28))) (l28 : K.lookup f28 = some ⟨oc28, od28, .func (PySem.W.fnOf "_law_row" "_law_row" (defArgs s_law_row) (defBody s_law_row) (defScope s_law_row) .none kV28 dc28 pm28 an28 cd28 ct28), sl28⟩) (c28 : PySem.W.codeIn K cd28 "_law_row" = true) (k28 : PySem.W.keepIn K (.ref f28) = true)
    (a29 : PySem.W.nsIn K mainGlobals "_law_weights" = some (some (.ref f29))) (l29 : K.lookup f29 = some ⟨oc29, od29, .func (PySem.W.fnOf "_law_weights" "_law_weights" (defArgs s_law_weights) (defBody s_law_weights) (defScope s_law_weights) .none kV29 dc29 pm29 an29 cd29 ct29), sl29⟩) (c29 : PySem.W.codeIn K cd29 "_law_weights" = true) (k29 : PySem.W.keepIn K (.ref f29) = true)
    (a30 : PySem.W.nsIn K mainGlobals "_law_powers" = some (some (.ref f30))) (l30 : K.lookup f30 = some ⟨oc30, od30, .func (PySem.W.fnOf "_law_powers" "_law_powers" (defArgs s_law_powers) (defBody s_law_powers) (defScope s_law_powers) .none kV30 dc30 pm30 an30 cd30 ct30), sl30⟩) (c30 : PySem.W.codeIn K cd30 "_law_powers" = true) (k30 : PySem.W.keepIn K (.ref f30) = true)
    (a31 : PySem.W.nsIn K mainGlobals "_law_rows_times" = some (some (.ref f31))) (l31 : K.lookup f31 = some ⟨oc31, od31, .func (PySem.W.fnOf "_law_rows_times" "_law_rows_times" (defArgs s_law_rows_times) (defBody s_law_rows_times) (defScope s_law_rows_times) .none kV31 dc31 pm31 an31 cd31 ct31), sl31⟩) (c31 : PySem.W.codeIn K cd31 "_law_rows_times" = true) (k31 : PySem.W.keepIn K (.ref f31) = true)
    (a32 : PySem.W.nsIn K mainGlobals "_law_right" = some (some (.ref f32))) (l32 : K.lookup f32 = some ⟨oc32, od32, .func (PySem.W.fnOf "_law_right" "_law_right" (defArgs s_law_right) (defBody s_law_right) (defScope s_law_right) .none kV32 dc32 pm32 an32 cd32 ct32), sl32⟩) (c32 : PySem.W.codeIn K cd32 "_law_right" = true) (k32 : PySem.W.keepIn K (.ref f32) = true)
    (a33 : PySem.W.nsIn K mainGlobals "law" = some (some (.ref f33))) (l33 : K.lookup f33 = some ⟨oc33, od33, .func (PySem.W.fnOf "law" "law" (defArgs s_law) (defBody s_law) (defScope s_law) .none kV33 dc33 pm33 an33 cd33 ct33), sl33⟩) (c33 : PySem.W.codeIn K cd33 "law" = true) (k33 : PySem.W.keepIn K (.ref f33) = true)
    (z_abs : PySem.W.nsIn K mainGlobals "abs" = some none)
    (z_all : PySem.W.nsIn K mainGlobals "all" = some none)
    (z_any : PySem.W.nsIn K mainGlobals "any" = some none)
    (z_bool : PySem.W.nsIn K mainGlobals "bool" = some none)
    (z_dict : PySem.W.nsIn K mainGlobals "dict" = some none)
    (z_divmod : PySem.W.nsIn K mainGlobals "divmod" = some none)
    (z_int : PySem.W.nsIn K mainGlobals "int" = some none)
    (z_isinstance : PySem.W.nsIn K mainGlobals "isinstance" = some none)
    (z_len : PySem.W.nsIn K mainGlobals "len" = some none)
    (z_list : PySem.W.nsIn K mainGlobals "list" = some none)
    (z_max : PySem.W.nsIn K mainGlobals "max" = some none)
    (z_range : PySem.W.nsIn K mainGlobals "range" = some none)
    (z_repr : PySem.W.nsIn K mainGlobals "repr" = some none)
    (z_sorted : PySem.W.nsIn K mainGlobals "sorted" = some none)
    (z_str : PySem.W.nsIn K mainGlobals "str" = some none)
    (z_sum : PySem.W.nsIn K mainGlobals "sum" = some none)
    (z_tuple : PySem.W.nsIn K mainGlobals "tuple" = some none)
    (z_zip : PySem.W.nsIn K mainGlobals "zip" = some none)
    : ∃ fd : FuncData, (∀ (s : Shared) (v : Value), BindsTo s fd ⟨[v], []⟩ [("script", v)]) ∧ ∀ base : Heap, K.In base → base.Ns mainGlobals mg → GOk l.prog w K mg base 8 fa fd ["script"] (spLaw K) := by
  have e := hfa.symm.trans (PySem.W.mg_of X G a33)
  cases e
  have F1 := fun_mk (st := s_is_integer) l1 c1 k1
  have b1 := F1.binds (ps := ["value"]) fun _ _ _ _ _ _ us hl => match us, hl with | [_], _ => rfl
  have F2 := fun_mk (st := s_is_within) l2 c2 k2
  have b2 := F2.binds (ps := ["value", "low", "high"]) fun _ _ _ _ _ _ us hl => match us, hl with | [_, _, _], _ => rfl
  have F3 := fun_mk (st := s_is_tagged) l3 c3 k3
  have b3 := F3.binds (ps := ["value", "word", "length"]) fun _ _ _ _ _ _ us hl => match us, hl with | [_, _, _], _ => rfl
  have F4 := fun_mk (st := s_is_pair) l4 c4 k4
  have b4 := F4.binds (ps := ["value"]) fun _ _ _ _ _ _ us hl => match us, hl with | [_], _ => rfl
  have F5 := fun_mk (st := s_is_rising) l5 c5 k5
  have b5 := F5.binds (ps := ["numbers"]) fun _ _ _ _ _ _ us hl => match us, hl with | [_], _ => rfl
  have F6 := fun_mk (st := s_check_many) l6 c6 k6
  have b6 := F6.binds (ps := ["many", "most"]) fun _ _ _ _ _ _ us hl => match us, hl with | [_, _], _ => rfl
  have F7 := fun_mk (st := s_check_digits) l7 c7 k7
  have b7 := F7.binds (ps := ["numbers"]) fun _ _ _ _ _ _ us hl => match us, hl with | [_], _ => rfl
  have F8 := fun_mk (st := s_is_product) l8 c8 k8
  have b8 := F8.binds (ps := ["value"]) fun _ _ _ _ _ _ us hl => match us, hl with | [_], _ => rfl
  have F9 := fun_mk (st := s_is_step_power) l9 c9 k9
  have b9 := F9.binds (ps := ["value"]) fun _ _ _ _ _ _ us hl => match us, hl with | [_], _ => rfl
  have F10 := fun_mk (st := s_check_product) l10 c10 k10
  have b10 := F10.binds (ps := ["product"]) fun _ _ _ _ _ _ us hl => match us, hl with | [_], _ => rfl
  have F11 := fun_mk (st := s_product_of) l11 c11 k11
  have b11 := F11.binds (ps := ["powers"]) fun _ _ _ _ _ _ us hl => match us, hl with | [_], _ => rfl
  have F12 := fun_mk (st := s_product_times) l12 c12 k12
  have b12 := F12.binds (ps := ["product", "other"]) fun _ _ _ _ _ _ us hl => match us, hl with | [_, _], _ => rfl
  have F13 := fun_mk (st := s_is_form) l13 c13 k13
  have b13 := F13.binds (ps := ["value"]) fun _ _ _ _ _ _ us hl => match us, hl with | [_], _ => rfl
  have F14 := fun_mk (st := s_check_form) l14 c14 k14
  have b14 := F14.binds (ps := ["form"]) fun _ _ _ _ _ _ us hl => match us, hl with | [_], _ => rfl
  have F15 := fun_mk (st := s_row_of_ways) l15 c15 k15
  have b15 := F15.binds (ps := ["weights", "many"]) fun _ _ _ _ _ _ us hl => match us, hl with | [_, _], _ => rfl
  have F16 := fun_mk (st := s_weight_joined) l16 c16 k16
  have b16 := F16.binds (ps := ["row", "weight"]) fun _ _ _ _ _ _ us hl => match us, hl with | [_, _], _ => rfl
  have F17 := fun_mk (st := s_ways_row) l17 c17 k17
  have b17 := F17.binds (ps := ["form", "many"]) fun _ _ _ _ _ _ us hl => match us, hl with | [_, _], _ => rfl
  have F18 := fun_mk (st := s_form_product) l18 c18 k18
  have b18 := F18.binds (ps := ["form"]) fun _ _ _ _ _ _ us hl => match us, hl with | [_], _ => rfl
  have F19 := fun_mk (st := s_joined) l19 c19 k19
  have b19 := F19.binds (ps := ["form", "other"]) fun _ _ _ _ _ _ us hl => match us, hl with | [_, _], _ => rfl
  have F20 := fun_mk (st := s_row_by_powers) l20 c20 k20
  have b20 := F20.binds (ps := ["powers", "many"]) fun _ _ _ _ _ _ us hl => match us, hl with | [_, _], _ => rfl
  have F21 := fun_mk (st := s_sums_of) l21 c21 k21
  have b21 := F21.binds (ps := ["powers", "many"]) fun _ _ _ _ _ _ us hl => match us, hl with | [_, _], _ => rfl
  have F22 := fun_mk (st := s_product_row) l22 c22 k22
  have b22 := F22.binds (ps := ["product", "many"]) fun _ _ _ _ _ _ us hl => match us, hl with | [_, _], _ => rfl
  have F23 := fun_mk (st := s_numbers_of) l23 c23 k23
  have b23 := F23.binds (ps := ["product", "many"]) fun _ _ _ _ _ _ us hl => match us, hl with | [_, _], _ => rfl
  have F24 := fun_mk (st := s_law_pot) l24 c24 k24
  have b24 := F24.binds (ps := ["script", "k"]) fun _ _ _ _ _ _ us hl => match us, hl with | [_, _], _ => rfl
  have F25 := fun_mk (st := s_law_draw) l25 c25 k25
  have b25 := F25.binds (ps := ["pot", "room"]) fun _ _ _ _ _ _ us hl => match us, hl with | [_, _], _ => rfl
  have F26 := fun_mk (st := s_law_pick) l26 c26 k26
  have b26 := F26.binds (ps := ["pot", "some"]) fun _ _ _ _ _ _ us hl => match us, hl with | [_, _], _ => rfl
  have F27 := fun_mk (st := s_law_most) l27 c27 k27
  have b27 := F27.binds (ps := ["weight", "number"]) fun _ _ _ _ _ _ us hl => match us, hl with | [_, _], _ => rfl
  have F28 := fun_mk (st := s_law_row) l28 c28 k28
  have b28 := F28.binds (ps := ["weights", "many"]) fun _ _ _ _ _ _ us hl => match us, hl with | [_, _], _ => rfl
  have F29 := fun_mk (st := s_law_weights) l29 c29 k29
  have b29 := F29.binds (ps := ["pot", "least", "most"]) fun _ _ _ _ _ _ us hl => match us, hl with | [_, _, _], _ => rfl
  have F30 := fun_mk (st := s_law_powers) l30 c30 k30
  have b30 := F30.binds (ps := ["weights"]) fun _ _ _ _ _ _ us hl => match us, hl with | [_], _ => rfl
  have F31 := fun_mk (st := s_law_rows_times) l31 c31 k31
  have b31 := F31.binds (ps := ["row", "other"]) fun _ _ _ _ _ _ us hl => match us, hl with | [_, _], _ => rfl
  have F32 := fun_mk (st := s_law_right) l32 c32 k32
  have b32 := F32.binds (ps := ["pot"]) fun _ _ _ _ _ _ us hl => match us, hl with | [_], _ => rfl
  have F33 := fun_mk (st := s_law) l33 c33 k33
  have b33 := F33.binds (ps := ["script"]) fun _ _ _ _ _ _ us hl => match us, hl with | [_], _ => rfl
  have kb_kb_form_product_0 : KBinds K (PySem.W.fnOf "form_product" "form_product" (defArgs s_form_product) (defBody s_form_product) (defScope s_form_product) .none kV18 dc18 pm18 an18 cd18 ct18) ["form"] ["form"] (fun us ws => match us, ws with | [], [ws0] => [ws0] | _, _ => []) (fun us ws => match us, ws with | [], [ws0] => [ws0] | _, _ => []) := by
    refine ⟨fun s us ws _ hl => ?_, fun {vs us zs ws} r1 r2 => ?_⟩
    · match us, ws, hl with
      | [], [_], _ => exact .of_eq rfl
    · rcases r1 with _ | ⟨q0, r1⟩ <;> rcases r2 with _ | ⟨p0, r2⟩ <;> (try rcases r2 with _ | ⟨p1, r2⟩) <;> first | exact .nil | (repeat (first | exact .nil | refine .cons (by assumption) ?_))
  have kb_kb_joined_1 : KBinds K (PySem.W.fnOf "joined" "joined" (defArgs s_joined) (defBody s_joined) (defScope s_joined) .none kV19 dc19 pm19 an19 cd19 ct19) ["form", "other"] ["other", "form"] (fun us ws => match us, ws with | [], [ws0, ws1] => [ws1, ws0] | _, _ => []) (fun us ws => match us, ws with | [], [ws0, ws1] => [ws1, ws0] | _, _ => []) := by
    refine ⟨fun s us ws _ hl => ?_, fun {vs us zs ws} r1 r2 => ?_⟩
    · match us, ws, hl with
      | [], [_, _], _ => exact .of_eq rfl
    · rcases r1 with _ | ⟨q0, r1⟩ <;> rcases r2 with _ | ⟨p0, r2⟩ <;> (try rcases r2 with _ | ⟨p1, r2⟩) <;> (try rcases r2 with _ | ⟨p2, r2⟩) <;> first | exact .nil | (repeat (first | exact .nil | refine .cons (by assumption) ?_))
  let T : Tx K mg := { f_is_integer := f1, fd_is_integer := _, F_is_integer := F1, m_is_integer := PySem.W.mg_of X G a1, b_is_integer := b1, f_is_within := f2, fd_is_within := _, F_is_within := F2, m_is_within := PySem.W.mg_of X G a2, b_is_within := b2, f_is_tagged := f3, fd_is_tagged := _, F_is_tagged := F3, m_is_tagged := PySem.W.mg_of X G a3, b_is_tagged := b3, f_is_pair := f4, fd_is_pair := _, F_is_pair := F4, m_is_pair := PySem.W.mg_of X G a4, b_is_pair := b4, f_is_rising := f5, fd_is_rising := _, F_is_rising := F5, m_is_rising := PySem.W.mg_of X G a5, b_is_rising := b5, f_check_many := f6, fd_check_many := _, F_check_many := F6, m_check_many := PySem.W.mg_of X G a6, b_check_many := b6, f_check_digits := f7, fd_check_digits := _, F_check_digits := F7, m_check_digits := PySem.W.mg_of X G a7, b_check_digits := b7, f_is_product := f8, fd_is_product := _, F_is_product := F8, m_is_product := PySem.W.mg_of X G a8, b_is_product := b8, f_is_step_power := f9, fd_is_step_power := _, F_is_step_power := F9, m_is_step_power := PySem.W.mg_of X G a9, b_is_step_power := b9, f_check_product := f10, fd_check_product := _, F_check_product := F10, m_check_product := PySem.W.mg_of X G a10, b_check_product := b10, f_product_of := f11, fd_product_of := _, F_product_of := F11, m_product_of := PySem.W.mg_of X G a11, b_product_of := b11, f_product_times := f12, fd_product_times := _, F_product_times := F12, m_product_times := PySem.W.mg_of X G a12, b_product_times := b12, f_is_form := f13, fd_is_form := _, F_is_form := F13, m_is_form := PySem.W.mg_of X G a13, b_is_form := b13, f_check_form := f14, fd_check_form := _, F_check_form := F14, m_check_form := PySem.W.mg_of X G a14, b_check_form := b14, f_row_of_ways := f15, fd_row_of_ways := _, F_row_of_ways := F15, m_row_of_ways := PySem.W.mg_of X G a15, b_row_of_ways := b15, f_weight_joined := f16, fd_weight_joined := _, F_weight_joined := F16, m_weight_joined := PySem.W.mg_of X G a16, b_weight_joined := b16, f_ways_row := f17, fd_ways_row := _, F_ways_row := F17, m_ways_row := PySem.W.mg_of X G a17, b_ways_row := b17, f_form_product := f18, fd_form_product := _, F_form_product := F18, m_form_product := PySem.W.mg_of X G a18, b_form_product := b18, f_joined := f19, fd_joined := _, F_joined := F19, m_joined := PySem.W.mg_of X G a19, b_joined := b19, f_row_by_powers := f20, fd_row_by_powers := _, F_row_by_powers := F20, m_row_by_powers := PySem.W.mg_of X G a20, b_row_by_powers := b20, f_sums_of := f21, fd_sums_of := _, F_sums_of := F21, m_sums_of := PySem.W.mg_of X G a21, b_sums_of := b21, f_product_row := f22, fd_product_row := _, F_product_row := F22, m_product_row := PySem.W.mg_of X G a22, b_product_row := b22, f_numbers_of := f23, fd_numbers_of := _, F_numbers_of := F23, m_numbers_of := PySem.W.mg_of X G a23, b_numbers_of := b23, f_law_pot := f24, fd_law_pot := _, F_law_pot := F24, m_law_pot := PySem.W.mg_of X G a24, b_law_pot := b24, f_law_draw := f25, fd_law_draw := _, F_law_draw := F25, m_law_draw := PySem.W.mg_of X G a25, b_law_draw := b25, f_law_pick := f26, fd_law_pick := _, F_law_pick := F26, m_law_pick := PySem.W.mg_of X G a26, b_law_pick := b26, f_law_most := f27, fd_law_most := _, F_law_most := F27, m_law_most := PySem.W.mg_of X G a27, b_law_most := b27, f_law_row := f28, fd_law_row := _, F_law_row := F28, m_law_row := PySem.W.mg_of X G a28, b_law_row := b28, f_law_weights := f29, fd_law_weights := _, F_law_weights := F29, m_law_weights := PySem.W.mg_of X G a29, b_law_weights := b29, f_law_powers := f30, fd_law_powers := _, F_law_powers := F30, m_law_powers := PySem.W.mg_of X G a30, b_law_powers := b30, f_law_rows_times := f31, fd_law_rows_times := _, F_law_rows_times := F31, m_law_rows_times := PySem.W.mg_of X G a31, b_law_rows_times := b31, f_law_right := f32, fd_law_right := _, F_law_right := F32, m_law_right := PySem.W.mg_of X G a32, b_law_right := b32, f_law := fa, fd_law := _, F_law := F33, m_law := PySem.W.mg_of X G a33, b_law := b33, kb_form_product_0 := kb_kb_form_product_0, kb_joined_1 := kb_kb_joined_1, z_abs := PySem.W.mg_none_of X G z_abs, z_all := PySem.W.mg_none_of X G z_all, z_any := PySem.W.mg_none_of X G z_any, z_bool := PySem.W.mg_none_of X G z_bool, z_dict := PySem.W.mg_none_of X G z_dict, z_divmod := PySem.W.mg_none_of X G z_divmod, z_int := PySem.W.mg_none_of X G z_int, z_isinstance := PySem.W.mg_none_of X G z_isinstance, z_len := PySem.W.mg_none_of X G z_len, z_list := PySem.W.mg_none_of X G z_list, z_max := PySem.W.mg_none_of X G z_max, z_range := PySem.W.mg_none_of X G z_range, z_repr := PySem.W.mg_none_of X G z_repr, z_sorted := PySem.W.mg_none_of X G z_sorted, z_str := PySem.W.mg_none_of X G z_str, z_sum := PySem.W.mg_none_of X G z_sum, z_tuple := PySem.W.mg_none_of X G z_tuple, z_zip := PySem.W.mg_none_of X G z_zip }
  exact ⟨T.fd_law, fun s v => .of_eq rfl, fun base _ _ => ok_law T⟩
end K38
open PySem PySem.W PyProof.Rows
set_option maxHeartbeats 0 in
theorem PySem.Challenge.cw_etaparts_k38_whole_forms_as_products_holds : PySem.Challenge.rw_etaparts_k38_whole_forms_as_products.Holds := by
  w_on; o_law; k_head; (case hw => w_witness2)
  k_fill
  refine EP.walk_run (l := PySem.Challenge.rw_etaparts_k38_whole_forms_as_products) (most := 63) (n := 8) (x := "script") (pr := fun w => K38.spLaw _) rfl (by decide) rfl ⟨rfl, by decide, by decide⟩ (fun w h Y => PySem.W.kIn_of Y) ?F (fun _ _ a ns hl _ _ hS => ⟨a, ns, rfl, hS, hl, fun _ => rfl⟩)
  case F =>
    intro w mg fa h KX G hmg
    refine' K38.all_mk KX G hmg ?a1 ?l1 ?c1 ?k1 ?a2 ?l2 ?c2 ?k2 ?a3 ?l3 ?c3 ?k3 ?a4 ?l4 ?c4 ?k4 ?a5 ?l5 ?c5 ?k5 ?a6 ?l6 ?c6 ?k6 ?a7 ?l7 ?c7 ?k7 ?a8 ?l8 ?c8 ?k8 ?a9 ?l9 ?c9 ?k9 ?a10 ?l10 ?c10 ?k10 ?a11 ?l11 ?c11 ?k11 ?a12 ?l12 ?c12 ?k12 ?a13 ?l13 ?c13 ?k13 ?a14 ?l14 ?c14 ?k14 ?a15 ?l15 ?c15 ?k15 ?a16 ?l16 ?c16 ?k16 ?a17 ?l17 ?c17 ?k17 ?a18 ?l18 ?c18 ?k18 ?a19 ?l19 ?c19 ?k19 ?a20 ?l20 ?c20 ?k20 ?a21 ?l21 ?c21 ?k21 ?a22 ?l22 ?c22 ?k22 ?a23 ?l23 ?c23 ?k23 ?a24 ?l24 ?c24 ?k24 ?a25 ?l25 ?c25 ?k25 ?a26 ?l26 ?c26 ?k26 ?a27 ?l27 ?c27 ?k27 ?a28 ?l28 ?c28 ?k28 ?a29 ?l29 ?c29 ?k29 ?a30 ?l30 ?c30 ?k30 ?a31 ?l31 ?c31 ?k31 ?a32 ?l32 ?c32 ?k32 ?a33 ?l33 ?c33 ?k33 ?z_abs ?z_all ?z_any ?z_bool ?z_dict ?z_divmod ?z_int ?z_isinstance ?z_len ?z_list ?z_max ?z_range ?z_repr ?z_sorted ?z_str ?z_sum ?z_tuple ?z_zip
    (case a1 => k_is); (case l1 => k_is); (case c1 => k_is); (case k1 => k_is); (case a2 => k_is); (case l2 => k_is); (case c2 => k_is); (case k2 => k_is); (case a3 => k_is); (case l3 => k_is); (case c3 => k_is); (case k3 => k_is); (case a4 => k_is); (case l4 => k_is); (case c4 => k_is); (case k4 => k_is); (case a5 => k_is); (case l5 => k_is); (case c5 => k_is); (case k5 => k_is); (case a6 => k_is); (case l6 => k_is); (case c6 => k_is); (case k6 => k_is); (case a7 => k_is); (case l7 => k_is); (case c7 => k_is); (case k7 => k_is); (case a8 => k_is); (case l8 => k_is); (case c8 => k_is); (case k8 => k_is); (case a9 => k_is); (case l9 => k_is); (case c9 => k_is); (case k9 => k_is); (case a10 => k_is); (case l10 => k_is); (case c10 => k_is); (case k10 => k_is); (case a11 => k_is); (case l11 => k_is); (case c11 => k_is); (case k11 => k_is); (case a12 => k_is); (case l12 => k_is); (case c12 => k_is); (case k12 => k_is); (case a13 => k_is); (case l13 => k_is); (case c13 => k_is); (case k13 => k_is); (case a14 => k_is); (case l14 => k_is); (case c14 => k_is); (case k14 => k_is); (case a15 => k_is); (case l15 => k_is); (case c15 => k_is); (case k15 => k_is); (case a16 => k_is); (case l16 => k_is); (case c16 => k_is); (case k16 => k_is); (case a17 => k_is); (case l17 => k_is); (case c17 => k_is); (case k17 => k_is); (case a18 => k_is); (case l18 => k_is); (case c18 => k_is); (case k18 => k_is); (case a19 => k_is); (case l19 => k_is); (case c19 => k_is); (case k19 => k_is); (case a20 => k_is); (case l20 => k_is); (case c20 => k_is); (case k20 => k_is); (case a21 => k_is); (case l21 => k_is); (case c21 => k_is); (case k21 => k_is); (case a22 => k_is); (case l22 => k_is); (case c22 => k_is); (case k22 => k_is); (case a23 => k_is); (case l23 => k_is); (case c23 => k_is); (case k23 => k_is); (case a24 => k_is); (case l24 => k_is); (case c24 => k_is); (case k24 => k_is); (case a25 => k_is); (case l25 => k_is); (case c25 => k_is); (case k25 => k_is); (case a26 => k_is); (case l26 => k_is); (case c26 => k_is); (case k26 => k_is); (case a27 => k_is); (case l27 => k_is); (case c27 => k_is); (case k27 => k_is); (case a28 => k_is); (case l28 => k_is); (case c28 => k_is); (case k28 => k_is); (case a29 => k_is); (case l29 => k_is); (case c29 => k_is); (case k29 => k_is); (case a30 => k_is); (case l30 => k_is); (case c30 => k_is); (case k30 => k_is); (case a31 => k_is); (case l31 => k_is); (case c31 => k_is); (case k31 => k_is); (case a32 => k_is); (case l32 => k_is); (case c32 => k_is); (case k32 => k_is); (case a33 => k_is); (case l33 => k_is); (case c33 => k_is); (case k33 => k_is); (case z_abs => k_is); (case z_all => k_is); (case z_any => k_is); (case z_bool => k_is); (case z_dict => k_is); (case z_divmod => k_is); (case z_int => k_is); (case z_isinstance => k_is); (case z_len => k_is); (case z_list => k_is); (case z_max => k_is); (case z_range => k_is); (case z_repr => k_is); (case z_sorted => k_is); (case z_str => k_is); (case z_sum => k_is); (case z_tuple => k_is); (case z_zip => k_is)
