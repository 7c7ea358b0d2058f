import PyProof.Rows.All
import Wide.All
import OpenK.AllK
import Wide.FinOn
import PySem.Challenge.RW_deedworlds_k02_terms_looked_at
import HandS.Base
import HandS.Call
import HandS.List
import HandS.Comp
import HandS.Iter
import HandS.Evl
import HandS.Words
import KE.GoesMore
import KE.GoesEnum
import PyProof.ReprRoads
import PyProof.AutoIntOps
import HandS.Ends
import HandS.ForMost
import HandS.IsInst
import HandS.Zip
import HandS.TupAny
import HandS.Conv
import HandS.NoneIn
import HandS.More
import HandS.Wide
import HandS.Walk
import HandS.ReCall
import KE.KIndexOf
import PyProof.Rows.RegFStrParts
import KE.KDictPairs
import KE.KDictZip
import HandS.Dict
import HandS.Set
import HandS.SetFor
import HandS.TupSets
import PyProof.Rows.SortStr
import HandS.Strs
import HandS.Style
import KE.GoesZip
import PyProof.ListStr
import HandS.FStr
import HandS.DictComp
import HandS.ListItems
import HandS.Text
import KE.KEqDict
import KE.KDictItemsList
import HandS.TupMul
import HandS.Exc
import HandS.ExcOwn
import HandS.WordsExc
import KE.KExcIs
import HandS.ExcIs
import PyProof.RowDictHeap
import PyProof.ReprLen
import HandS.RaiseMore
import HandS.Deep
import HandS.Codes
import HandS.RevRange
import HandS.SetKeys
import HandS.Flow
import KE.RegKIsAll
set_option Elab.async false
set_option linter.all false
set_option maxRecDepth 100000
set_option maxHeartbeats  4000000
section
/-! a rule of our own over the hand layer: for .. in enumerate(a tuple) -/
namespace Dw
open PySem PySem.Spec PyProof.Rows L2
/-- the walker of a tuple, and what counts beside it, as enumerate lays them -/
abbrev tupWalker (tp : Addr) : Obj := { cls := .type "tuple_iterator", data := .fields #[.ref tp, .int 0 0] }
abbrev counter (wk : Addr) : Obj := { cls := .type "enumerate", data := .fields #[.none, .bool false, .ref wk, rawInt 0, .none, .none] }
theorem new_enumT (tp : Addr) (cells : Array Value) (cap : Nat) (dc : Option Addr) (osl : Array (Option Value)) :
    Meets (Builtin.«enumerate.__new__» ⟨[.type "enumerate", .ref tp], []⟩) (fun _ R s => s.heap.get? tp = some { cls := .type "tuple", dict := dc, data := .seq cells cap, slots := osl } ∧
      R (.ok (.ret (.ref (s.heap.push (tupWalker tp)).objs.size))) { s with heap := (s.heap.push (tupWalker tp)).push (counter s.heap.objs.size) }) := by
  refine .of_wp fun prog w A R s pre => ?_
  obtain ⟨hp, glo, dep, tk, os⟩ := s
  obtain ⟨at_, goal⟩ := pre
  have isSub := sub_enumerate
  have isTup : Heap.IsTuple (Shared.heap ⟨hp, glo, dep, tk, os⟩) tp cells := ⟨_, at_, rfl, cap, rfl⟩
  wp_walk using AutoSeq1.wpAny_loadPart' at_
  refine wpAny_stack_any (fun _ => wpAny_pure ?_)
  split
  case h_1 cl _ _ _ _ _ =>
    generalize (cl == Value.type "enumerate") = same
    cases same <;> (wp_walk using AutoSeq1.wpAny_loadPart' at_, wpAny_pyIter_tuple isTup; exact ⟨_, rfl, goal⟩)
  case h_2 =>
    wp_walk using AutoSeq1.wpAny_loadPart' at_, wpAny_pyIter_tuple isTup
    exact ⟨_, rfl, goal⟩
/-- what stands behind enumerate(tuple): two new objects, all else as it was -/
structure Laid (old new : Heap) (tp : Addr) : Prop where
  cnt : IsEnum new (old.objs.size + 1) old.objs.size 0 .none
  wlk : new.IsTupleIter old.objs.size tp 0
  kept : ∀ b o, old.get? b = some o → new.get? b = some o
theorem laid_mk (old : Heap) (tp : Addr) : Laid old ((old.push (tupWalker tp)).push (counter old.objs.size)) tp := by
  have size1 : (old.push (tupWalker tp)).objs.size = old.objs.size + 1 := Heap.size_push ..
  have last := Heap.get?_push_size (old.push (tupWalker tp)) (o := counter old.objs.size) rfl
  rw [size1] at last
  exact ⟨last, ⟨tupWalker tp, Heap.get?_push_of_some _ (Heap.get?_push_size _ rfl), rfl, rfl⟩, fun b o q => Heap.get?_push_of_some _ (Heap.get?_push_of_some _ q)⟩
theorem call_enumT {prog : Program} {w : World} {A : Around} {E Q : Value → Shared → Prop} {s : Shared} {tp : Addr} {cells : Array Value} (isTup : s.heap.IsTuple tp cells)
    (next : ∀ new, Laid s.heap new tp → Q (.ref (s.heap.objs.size + 1)) { s with heap := new }) : wpAny (model prog w) A (call (.type "enumerate") [.ref tp]) Q E s := by
  obtain ⟨⟨cl, dc, dat, osl⟩, at_, isT, cap, isSeq⟩ := isTup
  have e1 : cl = .type "tuple" := isT
  have e2 : dat = .seq cells cap := isSeq
  subst e1
  subst e2
  have made := laid_mk s.heap tp
  have size1 : (s.heap.push (tupWalker tp)).objs.size = s.heap.objs.size + 1 := Heap.size_push ..
  refine callType_new F.called_enumerate (by decide) (F.typeCall_enumerate_1 _) (F.newCall_enumerate_1 _) (fun ob => F.args_object_init_2 ob _) F.entry_enumerate_new (new_enumT tp cells cap dc osl) (And.intro at_ ?_)
  have e3 : Value.ref (s.heap.push (tupWalker tp)).objs.size = .ref (s.heap.objs.size + 1) := by rw [size1]
  show _ ∧ _
  rw [e3]
  exact And.intro ⟨_, made.cnt, rfl⟩ (next _ made)
/-- the tuple at tp: its items, each in a new pair behind its place -/
def IteT (K : PySem.W.Frag) (tp : Addr) : It :=
  ⟨fun i H => ∃ (xs : List V) (x : V), SqT K H tp xs ∧ xs[i]? = some x, fun i H v H' => ∃ pr x, v = .ref pr ∧ H pr = none ∧ H' = upd H pr (.tup [.int (i : Nat), x]) ∧ ∀ xs, SqT K H tp xs → xs[i]? = some x, fun i H => ∃ xs : List V, SqT K H tp xs ∧ xs.length ≤ i⟩
/-- how the two objects stand ahead of turn i -/
def StandsT (tp cn wk : Addr) (i : Nat) (hp : Heap) : Prop := (∃ old, IsEnum hp cn wk ((i : Nat) : Int) old) ∧ hp.IsTupleIter wk tp i ∧ cn ≠ wk ∧ tp ≠ cn ∧ tp ≠ wk
theorem two {b x y : Addr} {P : Addr → Prop} (hb : b ∈ [x, y]) (px : P x) (py : P y) : P b := by
  rcases List.mem_cons.mp hb with same | same
  · exact same ▸ px
  · exact (List.mem_singleton.mp same) ▸ py
theorem turn_enumT {P : Program} {w : World} {K : PySem.W.Frag} {elts : List Expr} {kk : Nat} {tpos : Pos} (tp cn wk : Addr) : Turn P w K (.Tuple elts kk tpos) (IteT K tp) [cn, wk] cn (StandsT tp cn wk) where
  mem := List.mem_cons_self ..
  obj := by
    intro i hp st b hb
    obtain ⟨⟨_, isE⟩, ⟨o, at_, _, dat⟩, _⟩ := st
    exact two (P := fun b => ∃ o, hp.get? b = some o ∧ ∀ v, o.data ≠ .cell v) hb ⟨_, isE, fun _ q => nomatch q⟩ ⟨o, at_, fun v q => by rw [dat] at q; cases q⟩
  keep := by
    intro i hp hp' st same
    obtain ⟨⟨old, isE⟩, isI, far⟩ := st
    exact ⟨⟨old, same cn (List.mem_cons_self ..) _ isE⟩, isI.at fun o q => same wk (List.mem_cons_of_mem _ (List.mem_singleton.mpr rfl)) o q, far⟩
  item := by
    intro X eP ew eK calm i pins s σ H E I free st here
    subst eP ew eK
    obtain ⟨⟨old, isE⟩, isI, ne1, ne2, ne3⟩ := st
    obtain ⟨xs, x, isT, atx⟩ := here
    obtain ⟨cells, rel, isTup, _⟩ := I.tuple isT
    obtain ⟨u, atu, ru⟩ := rel.get atx
    have low : i < cells.toArray.size := by
      rw [List.size_toArray]
      exact (List.getElem?_eq_some_iff.mp atu).1
    have inCn : cn < s.heap.objs.size := Heap.lt_size isE
    have inWk : wk < s.heap.objs.size := let ⟨_, q, _⟩ := isI; Heap.lt_size q
    have far : cn ∉ [wk, tp] := fun z => by
      rcases List.mem_cons.mp z with one | one
      · exact ne1 one
      · exact ne2 (List.mem_singleton.mp one).symm
    have quiet : X.A.in1.handled = none := I.ok.hd calm
    refine wpAny_pyNext_enum_itemD (Draws.tuple (prog := X.prog) (w := X.w) quiet wk tp ne3 cells.toArray) isE ⟨isI, isTup⟩ low ne1 far fun v hp1 tk isv out st1 pair _ same => ?_
    have ev : v = u := by
      have q : cells.toArray[i]? = some v := isv
      rw [List.getElem?_toArray, atu] at q
      cases q
      rfl
    subst ev
    refine ⟨_, rfl, wpAny_letOwnedTupleGo_enum (s := { s with heap := hp1, toks := tk + 1 }) out fun hp2 isE2 but => ?_⟩
    have pair2 : hp2.get? s.heap.objs.size = some { cls := .type "tuple", data := .seq #[.int i tk, v] } := (but.2 _ (Nat.ne_of_gt inCn)).trans pair
    have fine : ObjOk X.prog X.w (upd H s.heap.objs.size (.tup [.int (i : Nat), x])) hp2 s.heap.objs.size (.tup [.int (i : Nat), x]) :=
      And.intro (show 2 ≤ sizeLine by decide) ⟨[.int i tk, v], .cons ⟨_, rfl⟩ (.cons ru .nil), _, pair2, rfl, _, rfl⟩
    have still : ∀ b ob, b ∉ [cn, wk] → s.heap.get? b = some ob → hp2.get? b = some ob := fun b ob nb q => by
      have n1 : b ≠ cn := fun z => nb (z ▸ List.mem_cons_self ..)
      have n2 : b ≠ wk := fun z => nb (z ▸ List.mem_cons_of_mem _ (List.mem_singleton.mpr rfl))
      rw [but.2 b n1]
      exact same b ob n1 n2 q
    have J := I.turnedNew (ch := [cn, wk]) (t' := tk + 1) still free (Nat.le_refl s.heap.objs.size) fine
    have up : (i : Int) + 1 = ((i + 1 : Nat) : Int) := (Int.natCast_succ i).symm
    rw [up] at isE2
    refine ⟨.ref s.heap.objs.size, _, J, rfl, ⟨_, x, rfl, I.hok.fresh (Nat.le_refl _), rfl, fun ys isY => ?_⟩, ⟨⟨v, isE2⟩, st1.1.at fun o q => (but.2 wk ne1.symm).trans q, ne1, ne2, ne3⟩, fun b hb => ?_⟩
    · rw [I.tuple_inj isY isT]
      exact atx
    · have inB : b < s.heap.objs.size := two (P := fun b => b < s.heap.objs.size) hb inCn inWk
      rw [upd_ne (Nat.ne_of_lt inB)]
      exact (free b hb).1
  done := by
    intro X eP ew eK calm i pins s σ H E I free st over
    subst eP ew eK
    obtain ⟨⟨old, isE⟩, isI, ne1, ne2, ne3⟩ := st
    obtain ⟨xs, isT, short⟩ := over
    obtain ⟨cells, rel, isTup, _⟩ := I.tuple isT
    obtain ⟨g0, g1, g2, g3, g4, g5⟩ := free wk (List.mem_cons_of_mem _ (List.mem_singleton.mpr rfl))
    have many : cells.toArray.size ≤ i := by
      rw [List.size_toArray, ← rel.length]
      exact short
    have quiet : X.A.in1.handled = none := I.ok.hd calm
    have D : Draws X.prog X.w X.A.in1 wk [wk, tp] i (fun _ _ => False) (fun j hp => j = i ∧ hp.IsTupleIter wk tp i ∧ hp.IsTuple tp cells.toArray) :=
      { live := fun _ _ q => let ⟨o, z, _⟩ := q.2.1; ⟨o, z⟩
        frame := fun _ _ _ q same => ⟨q.1, q.2.1.at fun o z => same wk (List.mem_cons_self ..) o z, q.2.2.at fun o z => same tp (List.mem_cons_of_mem _ (List.mem_singleton.mpr rfl)) o z⟩
        item := fun _ _ _ _ less q _ => absurd q.1 (Nat.ne_of_lt less)
        done := fun _ _ _ q ends => wpAny_nextOf_tuple_end quiet q.2.1 q.2.2 (Array.getElem?_eq_none many) ends }
    exact wpAny_pyNext_enum_endD D isE ⟨rfl, isI, isTup⟩ fun hp1 ext => ⟨rfl, I.turned (t' := s.toks) (fun b o nb q => ext b o nb q) g0 g1 g3 g4 g5⟩
  self := by
    intro A i s Q E st q
    obtain ⟨⟨_, isE⟩, _⟩ := st
    exact wpAny_pyIter_enum isE q
def iEnumT (K : PySem.W.Frag) (ta : TA) : TI := fun σ H R => ta σ H fun vs H1 => ∃ tp xs, vs = [.ref tp] ∧ SqT K H1 tp xs ∧ R (IteT K tp) H1
theorem pi_enumT {X : Cx} {e : Expr} {ta : TA} {p pos tpos : Pos} {elts : List Expr} {kk : Nat} (glob : Gl X "enumerate") (none_ : X.mg "enumerate" = none) (arg : PA X [e] ta) (star : starEach [e] X.env = [(false, eval e X.env)] := by rfl) :
    PI X (.Tuple elts kk tpos) (.Call (.Name "enumerate" p) [e] [] pos) (iEnumT X.K ta) := by
  constructor
  intro pins s σ H R I q0
  have given := arg.run pos pins s σ H _ I q0
  refine Call_ (ld_blt I glob none_ boot_enumerate (callWith_type1 (thn given fun us s1 got => ?_) star rfl))
  obtain ⟨vs, H1, J, rel, tp, xs, isOne, isT, q1⟩ := got
  subst isOne
  obtain ⟨u, isU, ru⟩ := vals1 rel
  subst isU
  cases (show u = Value.ref tp from ru)
  obtain ⟨cells, _, isTup, _⟩ := J.tuple isT
  have inTp : tp < s1.heap.objs.size := let ⟨_, at_, _⟩ := (show s1.heap.IsTuple tp cells.toArray from isTup); Heap.lt_size at_
  refine call_enumT isTup fun new made => wpAny_pyIter_enum made.cnt ?_
  have J2 : Inv X pins σ H1 { s1 with heap := new } := J.kept (t' := s1.toks) made.kept
  have stands : StandsT tp (s1.heap.objs.size + 1) s1.heap.objs.size 0 new := ⟨⟨.none, made.cnt⟩, made.wlk, Nat.succ_ne_self _, Nat.ne_of_lt (Nat.lt_succ_of_lt inTp), Nat.ne_of_lt inTp⟩
  refine ⟨s1.heap.objs.size + 1, [s1.heap.objs.size + 1, s1.heap.objs.size], _, _, H1, rfl, J2, turn_enumT tp _ _, stands, fun b hb => ?_, q1⟩
  have late : s1.heap.objs.size ≤ b := two (P := fun b => s1.heap.objs.size ≤ b) hb (Nat.le_succ _) (Nat.le_refl _)
  exact J.fpOk late (J.hok.fresh late)
end Dw
end
section
namespace Dw
open PySem PySem.Spec PyProof.Rows L2
/-! ### repr of data, where nothing is being shown around -/
/-! ### ** of a base that op_pow does not take -/
theorem op_powG {b e : Int} (h0 : 0 < e) (h1 : 1 < b) (hz : Builtin.Int.intTooBig (((Builtin.Int.intBits b : Nat) : Int) * e) = false) {X : Cx} :
    OpR X (binaryOp .Pow) (fun x y H Q => x = .int b ∧ y = .int e ∧ Q (.int (b ^ e.toNat)) H) := by
  intro pins s σ H x y v u Q I rx ry h
  obtain ⟨rfl, rfl, q⟩ := h
  obtain ⟨t1, rfl⟩ := (show ∃ t, v = Value.int b t from rx)
  obtain ⟨t2, rfl⟩ := (show ∃ t, u = Value.int e t from ry)
  refine AutoIntOps.pow_4 (by omega) (by simp; omega) (by simp; omega) (by simp; omega) (by rw [hz]; decide) ?_
  exact ⟨.int (b ^ e.toNat), H, I.tok _, ⟨_, rfl⟩, q⟩
end Dw
end
section
/-! the law's own def, entered from the caller's place itself (so that it is known there that nothing is being shown) -/
namespace Dw
open PySem PySem.Spec PyProof.Rows L2
/-- a def of one parameter, entered at a told place A -/
theorem enter1 {P : Program} {w : World} {K : PySem.W.Frag} {mg : Str → Option Value} {base : Heap} {k : Nat} {x qual : Str} {st : Stmt} {f : Addr} {fd : FuncData} {N : List Str} {A : Around} {outer : List Env} {s : Shared} {H : Hp} {v : V} {u : Value} {Q : VK}
    (F : Fun K qual qual st f fd) (S : FnScope N [x] (defScope st)) (bd : BindsTo s fd ⟨[u], []⟩ [(x, u)]) (room : Room (k + 1) A) (e0 : Env0 P w K mg base A outer s H) (rv : RelV v u)
    (body : ∀ cdv : Value, ∃ t, PSs (cxOf CX0 P w K mg base N qual (defScope st) f cdv A outer s H E0).nox (defBody st) t ∧ t { nx := fun _ H' => Q .non H', rt := Q } (start N [v]) H) :
    codeAny (model P w) A (.call (.ref f) ⟨[u], []⟩) (CR CX0 outer P w H s Q E0) s := by
  obtain ⟨oc, od, kV, doc, pm, an, cdv, ct, osl, efd, look, code⟩ := F.ex
  subst efd
  obtain ⟨t, der, rd⟩ := body cdv
  have kept : ∀ b o, base.get? b = some o → s.heap.get? b = some o := fun b o e => (e0.bs b o e).1
  have inK : K.In s.heap := e0.mod.kin.keeps kept
  refine codeAny_call_function room.depth (inK f _ look) rfl S.co S.gen rfl (PySem.W.codeRec_of inK code) (bd _ _ _ _ ?_)
  have kinds : ∀ y ∈ [(x, u)], (defScope st).names.lookup y.1 = some .local ∨ ((defScope st).names.lookup y.1 = some .cell ∧ ((cellsFrom (s.heap.objs.size + 1) (defScope st).names []).lookup y.1).isSome = true) := by
    intro y hy
    rw [List.mem_singleton.mp hy]
    cases S.par x (List.mem_singleton.mpr rfl) with
    | inl one => exact Or.inl one
    | inr one => exact Or.inr ⟨one, PySem.W.cellsFrom_some _ _ _ (Or.inl one)⟩
  refine wpAny_newFunctionEnv_cells S.kind kinds (fun env isEnv s1 ic => ?_)
  subst isEnv
  have noLim : s.heap.NoLimit := e0.mod.nolimit.keeps kept
  refine ⟨noLim.keeps ic.toInCall.keep, codeAny_func ?_⟩
  have start0 : Inv (cxOf CX0 P w K mg base N qual (defScope st) f cdv A outer s H E0) [] (start N [v]) H s1 := inv_start S room.hd e0 rfl (.cons rv .nil) ic
  refine wpAny_mono (der.nox.run [] s1 (start N [v]) H _ start0 rd) (fun flow s2 done => ?_) (fun _ _ bad => bad)
  match flow, done with
  | .next, ⟨_, H2, inv, q⟩ => exact ⟨.non, H2, inv.os, inv.bare, inv.base, inv.hok, rfl, q⟩
  | .ret _, ⟨v2, _, H2, inv, rel, q⟩ => exact ⟨v2, H2, inv.os, inv.bare, inv.base, inv.hok, rel, q⟩
  | .brk, ⟨_, _, _, q⟩ => exact q.elim
  | .cont, ⟨_, _, _, q⟩ => exact q.elim
/-- how the script stands ahead of the law: tracked as locked, or one of the written part's own -/
def scriptHp (K : PySem.W.Frag) (a : Addr) (ob : Obj) (ns : List Int) : Hp := fun b => if b = a ∧ K.lookup a = none then some (.frz ob (.lst (ns.map V.int))) else none
section
variable {K : PySem.W.Frag} {a : Addr} {ob : Obj} {ns : List Int}
theorem scriptHp_some {b : Addr} {u : HO} (h : scriptHp K a ob ns b = some u) : b = a ∧ K.lookup a = none ∧ u = .frz ob (.lst (ns.map V.int)) := by
  unfold scriptHp at h
  split at h
  · rename_i c
    exact ⟨c.1, c.2, (Option.some.inj h).symm⟩
  · cases h
theorem scriptHp_at (h : K.lookup a = none) : scriptHp K a ob ns a = some (.frz ob (.lst (ns.map V.int))) := if_pos ⟨rfl, h⟩
theorem scriptHp_no {b : Addr} (h : b ≠ a) : scriptHp K a ob ns b = none := if_neg fun c => h c.1
end
/-- the end of a law row whose def is walked from the caller's place -/
theorem walkG {l : PySem.W.OpenLaw} {n k : Nat} {q : Program} {loose : List Str} {XP : (Str → Option Value) → Heap → Prop} {YP : World → Heap → Prop} {d : DefRec} {K : Params → PySem.W.Frag} {x : Str}
    (hn : l.most = some n) (hn2 : n ≤ sizeLine) (hdf : d.params.defaults = []) (room : Room (k + 1) callerA) (hY : ∀ (w : World) (h : Heap), YP w h → (K w.params).In h)
    (F : ∀ (w : World) (mg : Str → Option Value) (fa : Addr) (h : Heap),
      (K w.params).In h → h.Ns mainGlobals mg → mg d.name = some (.ref fa) →
      ∃ (fd : FuncData) (st : Stmt) (N : List Str), Fun (K w.params) d.name d.name st fa fd ∧ FnScope N [x] (defScope st) ∧ (∀ (s : Shared) (u : Value), BindsTo s fd ⟨[u], []⟩ [(x, u)]) ∧
        ∀ (base : Heap) (s : Shared) (H : Hp) (cdv : Value) (a : Addr) (ns : List Int), (K w.params).In base → base.Ns mainGlobals mg → ns.length ≤ n → SqL (K w.params) H a (ns.map V.int) →
          ∃ t, PSs (cxOf CX0 l.prog w (K w.params) mg base N d.name (defScope st) fa cdv callerA [] s H E0).nox (defBody st) t ∧ t { nx := fun _ _ => False, rt := fun v _ => v = .bl true } (start N [.ref a]) H) :
    PySem.W.WalkO q loose XP YP l.row.toRowW d [] (fun g us => PySem.call g us) := by
  refine Att.attach_call hn hdf (fun w _ s mg mb fa _ _ _ _ a vs ns G Y _ _ _ gl isL nums len gens => ?_)
  have inK := hY w s.heap Y
  obtain ⟨fd, st, N, Fn, S, bd, body⟩ := F w mg fa s.heap inK G.T.g gl
  let H : Hp := scriptHp (K w.params) a { cls := .type "list", data := .seq vs.toArray } ns
  have rel : Vals (ns.map V.int) vs := vals_ints nums
  have small : vs.length ≤ sizeLine := by rw [nums.length]; exact Nat.le_trans len hn2
  have okH : HOk l.prog w H s.heap := by
    intro b u e
    obtain ⟨rfl, _, rfl⟩ := scriptHp_some e
    exact ⟨isL, by rw [List.length_map]; exact Nat.le_trans len hn2, vs, _, rel, isL⟩
  have seq : SqL (K w.params) H a (ns.map V.int) := by
    cases lk : (K w.params).lookup a with
    | none => exact Or.inl (Or.inr ⟨_, scriptHp_at lk⟩)
    | some o =>
      have same : o = { cls := .type "list", data := .seq vs.toArray } := Option.some.inj ((inK a o lk).symm.trans isL)
      exact Or.inr ⟨o, vs.toArray, _, lk, by rw [same], by rw [same], by rw [same], by rw [List.size_toArray]; exact small, by simpa using rel⟩
  have freeK : ∀ b o, (K w.params).lookup b = some o → H b = none := by
    intro b o e
    by_cases hb : b = a
    · subst hb
      exact if_neg fun c => by rw [c.2] at e; cases e
    · exact scriptHp_no hb
  have freeD : ∀ b o es ep, s.heap.get? b = some o → o.data = .dict es ep → H b = none := by
    intro b o es ep e dat
    by_cases hb : b = a
    · subst hb
      rw [isL] at e
      cases e
      cases dat
    · exact scriptHp_no hb
  have names : ∀ b m, s.heap.Ns b m → (hidT s.heap H).Ns b m := fun b m ⟨o, es, ep, e, dat, r⟩ => ⟨o, es, ep, hidT_get e (freeD b o es ep e dat), dat, r⟩
  have inB : (K w.params).In (hidT s.heap H) := fun b o e => hidT_get (inK b o e) (freeK b o e)
  have noL : (hidT s.heap H).NoLimit := by
    obtain ⟨mc, c1, c2⟩ := G.T.nolimit
    exact ⟨mc, names _ _ c1, c2⟩
  have e0 : Env0 l.prog w (K w.params) mg (hidT s.heap H) callerA [] s H :=
    { frames := rfl, mod := ⟨inB, names _ _ G.T.g, ⟨mb, names _ _ G.T.b, G.T.builtins⟩, noL⟩, bs := fun b o e => of_hidT e, bsz := Nat.le_of_eq (hidT_size _ _), funs := trivial, frf := fun b hb => absurd (show b ∈ ([] : List Addr) from hb) (by simp), hok := okH, bare := .of_eq gens }
  have run := enter1 (P := l.prog) (v := .ref a) (Q := fun v _ => v = .bl true) Fn S (bd s (.ref a)) room e0 rfl (fun cdv => by
    obtain ⟨t, t1, t2⟩ := body (hidT s.heap H) s H cdv a ns inB (names _ _ G.T.g) len seq
    refine ⟨t, t1, ?_⟩
    have no : (fun (_ : L2.St) (_ : Hp) => (V.non = V.bl true)) = fun _ _ => False := by
      funext _ _
      exact propext ⟨fun z => V.noConfusion z, False.elim⟩
    show t { nx := fun (_ : L2.St) (_ : Hp) => V.non = V.bl true, rt := fun v _ => v = .bl true } (start N [.ref a]) H
    rw [no]
    exact t2)
  refine codeAny_mono run (fun r s2 done => ?_)
  match r, done with
  | .error _, bad => exact bad.elim
  | .ok .next, bad => exact bad.elim
  | .ok .brk, bad => exact bad.elim
  | .ok .cont, bad => exact bad.elim
  | .ok (.ret _), ⟨_, H2, os, bare, un, ok2, rr, isT⟩ =>
    subst isT
    cases (show _ = Value.bool true from rr)
    refine ⟨rfl, OldK.of_keep (fun b o e => ?_), os, bare⟩
    cases tr : H b with
    | none => exact un.keep b o e tr (fun z => absurd (show b ∈ ([] : List Addr) from z) (by simp)) (by simp)
    | some u =>
      obtain ⟨hb, _, hu⟩ := scriptHp_some tr
      subst hb hu
      have still := un.frzs _ _ _ tr
      rw [isL] at e
      cases e
      exact (ok2 _ _ still).1
end Dw
end
section
/-! what a reading evaluates to: more words over Evl; tuples of natural numbers; defs by their names -/
namespace Dw
open PySem PySem.Spec PyProof.Rows L2 Evl
/-! ### defs by their names -/
/-- a def of the text behind the top, all of its parameters without defaults -/
structure Df (K : PySem.W.Frag) (mg : Str → Option Value) (x : Str) (st : Stmt) (ps : List Str) : Prop where
  ex : ∃ (f : Addr) (fd : FuncData), Fun K x x st f fd ∧ mg x = some (.ref f) ∧ Binds K fd ps []
/-- a def that keeps a promise -/
structure Cl (P : Program) (w : World) (K : PySem.W.Frag) (mg : Str → Option Value) (base : Heap) (k : Nat) (x : Str) (sp : Sp) : Prop where
  ex : ∃ (f : Addr) (fd : FuncData) (ps : List Str), FnOk P w K mg base CX0 k f fd ps sp ∧ mg x = some (.ref f) ∧ PySem.W.keepIn K (.ref f) = true ∧ Binds K fd ps []
theorem cl_of {P : Program} {w : World} {K : PySem.W.Frag} {mg : Str → Option Value} {base : Heap} {x : Str} {st : Stmt} {N ps : List Str} {k : Nat} {sp : Sp} (D : Df K mg x st ps) (S : FnScope N ps (defScope st)) (len : ∀ vs H Q E, sp vs H Q E → vs.length = ps.length)
    (body : ∀ (f : Addr) (cdv : Value) (A : Around) (outer : List Env) (s : Shared) (H : Hp) (vs : List V) (Q : VK) (E : XK), Room k (A.deeper (envOfC x (defScope st) s.heap.objs.size f cdv)) → sp vs H Q E →
      ∃ t, PSs (cxOf CX0 P w K mg base N x (defScope st) f cdv A outer s H E).nox (defBody st) t ∧ t { nx := fun _ H' => Q .non H', rt := Q } (start N vs) H) : Cl P w K mg base (k + 1) x sp := by
  obtain ⟨f, fd, F, m, b⟩ := D.ex
  exact ⟨f, fd, ps, F.ok S len (fun cdv A outer s H vs Q E hr h => body f cdv A outer s H vs Q E hr h), m, F.kp, b⟩
theorem pe_cl {X : Cx} {k j : Nat} {x : Str} {sp : Sp} {p pos : Pos} {e : Expr} {es : List Expr} {t : TA} (c : Cl X.prog X.w X.K X.mg X.base k x sp) (hr : Room j X.A) (hk : k ≤ j) (hg : Gl X x) (ha : PA X (e :: es) t)
    (dbg : (x == ("__debug__" : Str)) = false := by decide) (str : starEach (e :: es) X.env = (false, eval e X.env) :: starEach es X.env := by rfl) (bck : (backTo pos (starEach es X.env)).any (·.1) = false := by rfl) :
    PE X (.Call (.Name x p) (e :: es) [] pos) (tCall sp [] E0 t) := by
  obtain ⟨f, fd, ps, F, m, kp, b⟩ := c.ex
  exact pe_call F (hr.mono hk) hg m kp b .nil pass0 ha dbg str bck
/-- a pure promise: of some a what must hold, and what comes back, all that stood left as it was -/
def spX {α : Type} (pre : α → List V → Hp → Prop) (post : α → V → Hp → Prop) : Sp := fun vs H Q _ => ∃ a, pre a vs H ∧ ∀ v H', Ex H H' → post a v H' → Q v H'
/-! ### values of any kind, by what holds of them -/
def EvP (te : TE) (σ : L2.St) (H : Hp) (P : V → Hp → Prop) : Prop := ∀ H1, Ex H H1 → ∀ Q : VK, (∀ v H2, Ex H1 H2 → P v H2 → Q v H2) → te σ H1 Q
section
variable {K : PySem.W.Frag} {σ : L2.St} {H H' : Hp} {ta tb te : TE} {x y z v : V} {P : V → Hp → Prop}
theorem EvP.mono (e : Ex H H') (h : EvP te σ H P) : EvP te σ H' P := fun H1 a Q q => h H1 (e.trans a) Q q
theorem EvP.imp {P' : V → Hp → Prop} (h : EvP te σ H P) (i : ∀ v H', Ex H H' → P v H' → P' v H') : EvP te σ H P' := fun H1 e Q q => h H1 e Q fun v H2 e2 p => q v H2 e2 (i v H2 (e.trans e2) p)
theorem ep_ev (h : Ev te σ H v) (p : ∀ H', Ex H H' → P v H') : EvP te σ H P := fun H1 e Q q => h H1 e Q fun H2 e2 => q v H2 e2 (p H2 (e.trans e2))
theorem ev_ep (h : EvP te σ H fun u _ => u = v) : Ev te σ H v := fun H1 e Q q => h H1 e Q fun u H2 e2 p => by subst p; exact q H2 e2
/-- a call by a pure promise -/
theorem ep_call {α : Type} {pre : α → List V → Hp → Prop} {post : α → V → Hp → Prop} (a : α) {vs : List V} {E : XK} {ta : TA} (h : EvA ta σ H vs) (hp : ∀ H1, Ex H H1 → pre a vs H1) : EvP (tCall (spX pre post) [] E ta) σ H (post a) := fun H1 e Q q =>
  h H1 e _ fun H2 e2 => by
    rw [List.append_nil]
    exact ⟨a, hp H2 (e.trans e2), fun v H3 e3 p => q v H3 (e2.trans e3) p⟩
theorem ev_callV {α : Type} {pre : α → List V → Hp → Prop} {post : α → V → Hp → Prop} (a : α) {vs : List V} {E : XK} {ta : TA} (h : EvA ta σ H vs) (hp : ∀ H1, Ex H H1 → pre a vs H1) (hv : ∀ u H', post a u H' → u = v) : Ev (tCall (spX pre post) [] E ta) σ H v :=
  ev_ep ((ep_call a h hp).imp fun u H' _ p => hv u H' p)
/-! isinstance -/
theorem ev_isi {c : V} {t u : Value} {b : Bool} (ha : Ev ta σ H x) (hc : Ev tb σ H c) (k : ClsV c u) (ty : ∀ H1, Ex H H1 → TyX K H1 x t) (e : PySem.W.kitOne K t u = some b) : Ev (tCB (rIsi K) (tCons ta (tCons tb tNil))) σ H (.bl b) := fun H1 e1 Q q =>
  ha H1 e1 _ fun H2 e2 => hc H2 (e1.trans e2) _ fun H3 e3 => ⟨x, c, t, u, b, rfl, k, ty H3 ((e1.trans e2).trans e3), e, q H3 (e2.trans e3)⟩
theorem tyx_int (i : Int) : TyX K H (.int i) (.type "int") := .base (.int i)
theorem tyx_str (s : Str) : TyX K H (.str s) (.type "str") := .base (.str s)
theorem tyx_bl (b : Bool) : TyX K H (.bl b) (.type "bool") := .base (.bl b)
theorem tyx_non : TyX K H .non (.type "NoneType") := .base .non
theorem tyx_tup {a : Addr} {xs : List V} (h : SqT K H a xs) : TyX K H (.ref a) (.type "tuple") := by
  rcases h with (h | ⟨o, h⟩) | ⟨o, its, n, lk, c, _⟩
  · exact .base (.tup h)
  · exact .fTuple h
  · exact .kTuple lk c
theorem kit_tt : PySem.W.kitOne K (.type "tuple") (.type "tuple") = some true := kit_ty (by decide +kernel)
theorem kit_ii : PySem.W.kitOne K (.type "int") (.type "int") = some true := kit_ty (by decide +kernel)
theorem kit_ib : PySem.W.kitOne K (.type "int") (.type "bool") = some false := kit_ty (by decide +kernel)
theorem kit_ss : PySem.W.kitOne K (.type "str") (.type "str") = some true := kit_ty (by decide +kernel)
/-! len -/
theorem ev_lenT {p : Addr} {xs : List V} (ha : Ev ta σ H (.ref p)) (h : SqT K H p xs) : Ev (tCB (rLenS K) (tCons ta tNil)) σ H (.int (xs.length : Int)) := fun H1 e Q q =>
  ha H1 e _ fun H2 e2 => ⟨p, xs, rfl, Or.inr (ex_t (e.trans e2) h), q H2 e2⟩
def rLenTx : List V → Hp → VK → Prop := fun xs H Q => ∃ z, xs = [.str z] ∧ z.length ≤ sizeLine ∧ Q (.int z.length) H
theorem ev_lenS {z : Str} (ha : Ev ta σ H (.str z)) (h : z.length ≤ 100000) : Ev (tCB rLenTx (tCons ta tNil)) σ H (.int (z.length : Int)) := fun H1 e Q q =>
  ha H1 e _ fun H2 e2 => ⟨z, rfl, sz_of h, q H2 e2⟩
/-- a < b < c and the like -/
theorem ev_chain {r r' : R2} {tc : TE} {x y z : V} {a b : Bool} (ha : Ev ta σ H x) (hb : Ev tb σ H y) (hc : a = true → Ev tc σ H z) (h1 : RV r x y H (.bl a)) (h2 : a = true → RV r' y z H (.bl b)) : Ev (tChain r r' ta tb tc) σ H (.bl (a && b)) := fun H1 e Q q =>
  ha H1 e _ fun H2 e2 => hb H2 (e.trans e2) _ fun H3 e3 => h1 H3 ((e.trans e2).trans e3) _ fun H4 e4 => ⟨a, rfl, by
    have e14 := (e2.trans e3).trans e4
    cases a with
    | true =>
      show tc σ H4 _
      refine hc rfl H4 (e.trans e14) _ fun H5 e5 => ?_
      exact h2 rfl H5 ((e.trans e14).trans e5) Q fun H6 e6 => q H6 ((e14.trans e5).trans e6)
    | false =>
      show Q (.bl false) H4
      exact q H4 e14⟩
theorem et_val {b : Bool} (h : Ev te σ H (.bl b)) : EvT (tB te) σ H b := et_B h
theorem et_isN {x : V} (h : Ev ta σ H x) : EvT (tTest (tOp (fun x y H Q => y = .non ∧ Q (.bl (!decide (x = .non))) H) ta (tC .non))) σ H (!decide (x = .non)) := fun H1 e Q q =>
  h H1 e _ fun H2 e2 => ⟨rfl, _, rfl, q H2 e2⟩
end
/-! ### tuples of natural numbers -/
abbrev vi (k : Nat) : V := .int (k : Int)
theorem atI_vi {xs : List V} {k : Nat} {v : V} (h : xs[k]? = some v) : atI xs (k : Int) = some v := atI_nat h
/-- all tuples that stood stand (lists may have changed) -/
def ET (K : PySem.W.Frag) (H H' : Hp) : Prop := ∀ a xs, SqT K H a xs → SqT K H' a xs
theorem ET.refl {K : PySem.W.Frag} {H : Hp} : ET K H H := fun _ _ h => h
theorem ET.trans {K : PySem.W.Frag} {H H1 H2 : Hp} (a : ET K H H1) (b : ET K H1 H2) : ET K H H2 := fun p xs h => b p xs (a p xs h)
theorem Ex.et {K : PySem.W.Frag} {H H' : Hp} (e : Evl.Ex H H') : ET K H H' := fun _ _ h => ex_t e h
theorem ET.upd {K : PySem.W.Frag} {H H' : Hp} {l : Addr} {xs ys : List V} (e : ET K H H') (h : H' l = some (.lst xs)) : ET K H (upd H' l (.lst ys)) := fun a zs q => by
  rcases e a zs q with (q | ⟨o, q⟩) | q
  · have ne : a ≠ l := fun z => by rw [z, h] at q; cases q
    exact .inl (.inl (by rw [upd_ne ne]; exact q))
  · have ne : a ≠ l := fun z => by rw [z, h] at q; cases q
    exact .inl (.inr ⟨o, by rw [upd_ne ne]; exact q⟩)
  · exact .inr q
def Nats (K : PySem.W.Frag) (H : Hp) (v : V) (ns : List Nat) : Prop := ∃ a, v = .ref a ∧ SqT K H a (ns.map vi)
theorem Nats.et {K : PySem.W.Frag} {H H' : Hp} {v : V} {ns : List Nat} (e : ET K H H') (h : Nats K H v ns) : Nats K H' v ns := let ⟨a, q, s⟩ := h; ⟨a, q, e _ _ s⟩
theorem Nats.ex {K : PySem.W.Frag} {H H' : Hp} {v : V} {ns : List Nat} (e : Evl.Ex H H') (h : Nats K H v ns) : Nats K H' v ns := h.et (Dw.Ex.et e)
theorem paired_imp {α β : Type} {R S : α → β → Prop} (h : ∀ a b, R a b → S a b) : ∀ {xs : List α} {ys : List β}, Paired R xs ys → Paired S xs ys
  | _, _, .nil => .nil
  | _, _, .cons a b => .cons (h _ _ a) (paired_imp h b)
theorem paired_get {α β : Type} {R : α → β → Prop} : ∀ {xs : List α} {ys : List β} {i : Nat} {y : β}, Paired R xs ys → ys[i]? = some y → ∃ x, xs[i]? = some x ∧ R x y
  | _, _, _, _, .nil, h => by simp at h
  | _, _, 0, _, .cons a _, h => by
    have e := Option.some.inj h
    subst e
    exact ⟨_, rfl, a⟩
  | _, _, i + 1, y, .cons _ b, h => by
    obtain ⟨x, e, r⟩ := paired_get (i := i) b h
    exact ⟨x, e, r⟩
theorem paired_len {α β : Type} {R : α → β → Prop} : ∀ {xs : List α} {ys : List β}, Paired R xs ys → xs.length = ys.length
  | _, _, .nil => rfl
  | _, _, .cons _ b => congrArg (· + 1) (paired_len b)
theorem paired_snoc {α β : Type} {R : α → β → Prop} {x : α} {y : β} (r : R x y) : ∀ {xs : List α} {ys : List β}, Paired R xs ys → Paired R (xs ++ [x]) (ys ++ [y])
  | _, _, .nil => .cons r .nil
  | _, _, .cons a b => .cons a (paired_snoc r b)
/-- a tuple of tuples of natural numbers -/
def Tabs (K : PySem.W.Frag) (H : Hp) (v : V) (ts : List (List Nat)) : Prop := ∃ a vs, v = .ref a ∧ SqT K H a vs ∧ Paired (Nats K H) vs ts
theorem Tabs.et {K : PySem.W.Frag} {H H' : Hp} {v : V} {ts : List (List Nat)} (e : ET K H H') (h : Tabs K H v ts) : Tabs K H' v ts := let ⟨a, vs, q, s, p⟩ := h; ⟨a, vs, q, e _ _ s, paired_imp (fun _ _ n => n.et e) p⟩
theorem Tabs.ex {K : PySem.W.Frag} {H H' : Hp} {v : V} {ts : List (List Nat)} (e : Evl.Ex H H') (h : Tabs K H v ts) : Tabs K H' v ts := h.et (Dw.Ex.et e)
/-- a deed; a signature -/
def Deed (K : PySem.W.Frag) (H : Hp) (v : V) (p : Str × Nat) : Prop := ∃ b, v = .ref b ∧ SqT K H b [.str p.1, vi p.2]
theorem Deed.et {K : PySem.W.Frag} {H H' : Hp} {v : V} {p : Str × Nat} (e : ET K H H') (h : Deed K H v p) : Deed K H' v p := let ⟨b, q, s⟩ := h; ⟨b, q, e _ _ s⟩
def Sig (K : PySem.W.Frag) (H : Hp) (v : V) (sg : List (Str × Nat)) : Prop := ∃ a vs, v = .ref a ∧ SqT K H a vs ∧ Paired (Deed K H) vs sg
theorem Sig.et {K : PySem.W.Frag} {H H' : Hp} {v : V} {sg : List (Str × Nat)} (e : ET K H H') (h : Sig K H v sg) : Sig K H' v sg := let ⟨a, vs, q, s, p⟩ := h; ⟨a, vs, q, e _ _ s, paired_imp (fun _ _ n => n.et e) p⟩
theorem Sig.ex {K : PySem.W.Frag} {H H' : Hp} {v : V} {sg : List (Str × Nat)} (e : Evl.Ex H H') (h : Sig K H v sg) : Sig K H' v sg := h.et (Dw.Ex.et e)
/-- a model: its size and its tables -/
def Mdl (K : PySem.W.Frag) (H : Hp) (v : V) (n : Nat) (ts : List (List Nat)) : Prop := ∃ a u, v = .ref a ∧ SqT K H a [vi n, u] ∧ Tabs K H u ts
theorem Mdl.et {K : PySem.W.Frag} {H H' : Hp} {v : V} {n : Nat} {ts : List (List Nat)} (e : ET K H H') (h : Mdl K H v n ts) : Mdl K H' v n ts := let ⟨a, u, q, s, p⟩ := h; ⟨a, u, q, e _ _ s, p.et e⟩
theorem Mdl.ex {K : PySem.W.Frag} {H H' : Hp} {v : V} {n : Nat} {ts : List (List Nat)} (e : Evl.Ex H H') (h : Mdl K H v n ts) : Mdl K H' v n ts := h.et (Dw.Ex.et e)
end Dw
end
section
/-! loops and comprehensions over anything that is walked; statements by what holds of a value -/
namespace Dw
open PySem PySem.Spec PyProof.Rows L2 Evl
section
variable {K : PySem.W.Frag} {σ : L2.St} {H H' : Hp} {ta tb te : TE} {t : TT} {x y z v : V} {P : V → Hp → Prop} {D : Ends} {tu tz : TS} {g : TG}
/-! ### statements -/
theorem s_asgP {i : Nat} (h : EvP te σ H P) (k : ∀ v H1, Ex H H1 → P v H1 → D.nx (σ.set i (some v)) H1) : tAsg te (gName i) D σ H := h H (Ex.refl H) _ fun v H1 e p => k v H1 e p
theorem q_asgP {i : Nat} (h : EvP te σ H P) (k : ∀ v H1, Ex H H1 → P v H1 → tz D (σ.set i (some v)) H1) : tSeq (tAsg te (gName i)) tz D σ H := s_asgP (D := { D with nx := tz D }) h k
/-! ### all -/
theorem ev_all {bs : List Bool} (h : EvL te σ H (bs.map V.bl)) : Ev (tCB (rAll K) (tCons te tNil)) σ H (.bl (bs.all id)) := fun H1 e Q q =>
  h H1 e _ fun p H2 _ e2 hp => ⟨p, bs, rfl, sq_of hp, q H2 e2⟩
/-! ### comprehensions -/
theorem et_yes : EvT tYes σ H true := fun H1 _ _ q => q H1 (Ex.refl H1)
/-- one for over anything whose turns leave the heap as it was -/
theorem el_lcIt {J : It} {n : Nat} {G : Hp → Prop} {Y : Nat → Hp → V → Hp → Prop} {wi : TI} {Px : Nat → V → Prop} {j : Nat} {vs : List Nat} (w : Walk J n G Y)
    (hw0 : ∀ H0, Ex H H0 → ∀ R : It → Hp → Prop, (∀ H1, Ex H0 H1 → R J H1) → wi σ H0 R) (hG : ∀ H1, Ex H H1 → G H1) (hY : ∀ i H x H', Y i H x H' → H' = H ∧ Px i x)
    (f : Nat → Bool) (u : Nat → V) (hn : n ≤ 40000) (hwp : ∀ x, wipe ((wipe σ vs).set j (some x)) vs = wipe σ vs)
    (ht : ∀ i x H1, Ex H H1 → i < n → Px i x → EvT t ((wipe σ vs).set j (some x)) H1 (f i)) (he : ∀ i x H1, Ex H H1 → i < n → Px i x → f i = true → Ev te ((wipe σ vs).set j (some x)) H1 (u i)) :
    EvL (tLc wi (gName j) t te vs) σ H (given n f u) := fun H0 e Q q => hw0 H0 e _ fun H1 e1 Dl hD =>
  lc_it w (Cw H1 f u Dl) ⟨hD, Ex.new hD, upd_same⟩ (fun i H2 _ p => hG H2 ((e.trans e1).trans p.2.1)) (fun i x H2 H3 hi p y => by
    obtain ⟨rfl, px⟩ := hY i H2 x H3 y
    exact ⟨hwp x, cw_turn p (by omega) (ht i x H1 (e.trans e1) hi px) (fun hf => he i x H1 (e.trans e1) hi px hf)⟩)
    (fun H2 p => q Dl H2 (fresh_back e1 p.1) (e1.trans p.2.1) p.2.2)
theorem given_all (n : Nat) (u : Nat → V) : given n (fun _ => true) u = (List.range n).map u := by
  unfold given
  rw [List.filter_eq_self.mpr (fun _ _ => rfl)]
/-- .. without a test -/
theorem el_lcAll {J : It} {n : Nat} {G : Hp → Prop} {Y : Nat → Hp → V → Hp → Prop} {wi : TI} {Px : Nat → V → Prop} {j : Nat} {vs : List Nat} (w : Walk J n G Y)
    (hw0 : ∀ H0, Ex H H0 → ∀ R : It → Hp → Prop, (∀ H1, Ex H0 H1 → R J H1) → wi σ H0 R) (hG : ∀ H1, Ex H H1 → G H1) (hY : ∀ i H x H', Y i H x H' → H' = H ∧ Px i x)
    (u : Nat → V) (hn : n ≤ 40000) (hwp : ∀ x, wipe ((wipe σ vs).set j (some x)) vs = wipe σ vs) (he : ∀ i x H1, Ex H H1 → i < n → Px i x → Ev te ((wipe σ vs).set j (some x)) H1 (u i)) :
    EvL (tLc wi (gName j) tYes te vs) σ H ((List.range n).map u) := by
  have h := el_lcIt w hw0 hG hY (fun _ => true) u hn hwp (fun _ _ _ _ _ _ => et_yes) (fun i x H1 e hi px _ => he i x H1 e hi px)
  rw [given_all] at h
  exact h
theorem w_str {z : Str} (h : Ev te σ H (.str z)) : ∀ H0, Ex H H0 → ∀ R : It → Hp → Prop, (∀ H1, Ex H0 H1 → R (Its z) H1) → iStr te σ H0 R := fun H0 e R r => h H0 e _ fun H1 e1 => ⟨z, rfl, r H1 e1⟩
theorem w_tup {a : Addr} {xs : List V} (h : Ev te σ H (.ref a)) (hx : SqT K H a xs) : ∀ H0, Ex H H0 → ∀ R : It → Hp → Prop, (∀ H1, Ex H0 H1 → R (Itt K a) H1) → iTup K te σ H0 R := fun H0 e R r => h H0 e _ fun H1 e1 => ⟨a, rfl, ⟨xs, ex_t (e.trans e1) hx⟩, r H1 e1⟩
theorem w_rng {ta : TA} {n : Nat} (h : EvA ta σ H [vi n]) (hn : n ≤ 40000) : ∀ H0, Ex H H0 → ∀ R : It → Hp → Prop, (∀ H1, Ex H0 H1 → R (Itr 0 n) H1) → iRng1 ta σ H0 R := fun H0 e R r => h H0 e _ fun H1 e1 => ⟨n, rfl, by omega, by omega, r H1 e1⟩
/-- over a tuple, a value for each item -/
theorem el_lcT {a : Addr} {xs : List V} {tl : TE} {j : Nat} {vs : List Nat} (h : Ev tl σ H (.ref a)) (hx : SqT K H a xs) (u : Nat → V) (hn : xs.length ≤ 40000) (hwp : ∀ x, wipe ((wipe σ vs).set j (some x)) vs = wipe σ vs)
    (he : ∀ i x H1, Ex H H1 → xs[i]? = some x → Ev te ((wipe σ vs).set j (some x)) H1 (u i)) : EvL (tLc (iTup K tl) (gName j) tYes te vs) σ H ((List.range xs.length).map u) :=
  el_lcAll walk_tup (w_tup h hx) (fun H1 e => ex_t e hx) (Px := fun i x => xs[i]? = some x) (fun i H x H' y => y) u hn hwp (fun i x H1 e _ px => he i x H1 e px)
theorem el_lcS {z : Str} {tl : TE} {j : Nat} {vs : List Nat} (h : Ev tl σ H (.str z)) (u : Nat → V) (hn : z.cps.size ≤ 40000) (hwp : ∀ x, wipe ((wipe σ vs).set j (some x)) vs = wipe σ vs)
    (he : ∀ i c H1, Ex H H1 → z.cps[i]? = some c → Ev te ((wipe σ vs).set j (some (.str ⟨#[c]⟩))) H1 (u i)) : EvL (tLc (iStr tl) (gName j) tYes te vs) σ H ((List.range z.cps.size).map u) :=
  el_lcAll walk_str (w_str h) (fun _ _ => trivial) (Px := fun i x => ∃ c, z.cps[i]? = some c ∧ x = .str ⟨#[c]⟩) (fun i H x H' y => y) u hn hwp (fun i x H1 e _ ⟨c, hc, hx⟩ => by subst hx; exact he i c H1 e hc)
theorem el_lcR {ta : TA} {n : Nat} {j : Nat} {vs : List Nat} (h : EvA ta σ H [vi n]) (u : Nat → V) (hn : n ≤ 40000) (hwp : ∀ x, wipe ((wipe σ vs).set j (some x)) vs = wipe σ vs)
    (he : ∀ i H1, Ex H H1 → i < n → Ev te ((wipe σ vs).set j (some (vi i))) H1 (u i)) : EvL (tLc (iRng1 ta) (gName j) tYes te vs) σ H ((List.range n).map u) :=
  el_lcAll walk_range (w_rng h hn) (fun _ _ => trivial) (Px := fun i x => x = vi i) (fun i H x H' y => ⟨y.1, by rw [y.2]; show V.int (0 + (i : Int)) = _; rw [Int.zero_add]⟩) u hn hwp (fun i x H1 e hi px => by subst px; exact he i H1 e hi)
/-! ### loops that give pairs -/
theorem walk_enumT {a : Addr} {xs : List V} : Walk (IteT K a) xs.length (fun H => SqT K H a xs) (YPair (fun i => some (vi i)) (fun i => xs[i]?)) := by
  refine ⟨fun i H hi q => ⟨xs, xs[i], q, List.getElem?_eq_getElem hi⟩, fun H q => ⟨xs, q, Nat.le_refl _⟩, fun i H v H' _ q y => ?_⟩
  obtain ⟨T, x, h1, h2, h3, h4⟩ := y
  exact ⟨T, vi i, x, h1, h2, h3, rfl, h4 xs q⟩
theorem q_enumT {a : Addr} {xs : List V} {ta : TA} {j1 j2 : Nat} (h : EvA ta σ H [.ref a]) (hx : SqT K H a xs) (Pv : Nat → L2.St → Hp → Prop) (h0 : ∀ H1, Ex H H1 → Pv 0 σ H1) (hl : ∀ i σ' H', i ≤ xs.length → Pv i σ' H' → SqT K H' a xs)
    (hs : ∀ i x σ' H' H'', xs[i]? = some x → Pv i σ' H' → Ex H' H'' → tu { D with nx := Pv (i + 1), ct := Pv (i + 1), bk := tz D } ((σ'.set j1 (some (vi i))).set j2 (some x)) H'') (hd : ∀ σ' H', Pv xs.length σ' H' → tz D σ' H') :
    tSeq (tFor (iEnumT K ta) (gTup K 2 (gCons (gName j1) (gCons (gName j2) gNil))) tu) tz D σ H :=
  h H (Ex.refl H) _ fun H1 e => ⟨a, xs, rfl, ex_t e hx, for_it (D := { D with nx := tz D }) walk_enumT Pv (h0 H1 e) hl (fun i v σ' H2 H3 hi p y => by
    obtain ⟨T, x1, x2, rfl, nT, rfl, e1, e2⟩ := y
    cases e1
    exact ⟨T, _, rfl, st_of upd_same, rfl, _, _, rfl, _, _, rfl, rfl, hs i x2 σ' H2 _ e2 p (Ex.new nT)⟩) hd⟩
theorem s_enumT {a : Addr} {xs : List V} {ta : TA} {j1 j2 : Nat} (h : EvA ta σ H [.ref a]) (hx : SqT K H a xs) (Pv : Nat → L2.St → Hp → Prop) (h0 : ∀ H1, Ex H H1 → Pv 0 σ H1) (hl : ∀ i σ' H', i ≤ xs.length → Pv i σ' H' → SqT K H' a xs)
    (hs : ∀ i x σ' H' H'', xs[i]? = some x → Pv i σ' H' → Ex H' H'' → tu { D with nx := Pv (i + 1), ct := Pv (i + 1), bk := D.nx } ((σ'.set j1 (some (vi i))).set j2 (some x)) H'') (hd : ∀ σ' H', Pv xs.length σ' H' → D.nx σ' H') :
    tFor (iEnumT K ta) (gTup K 2 (gCons (gName j1) (gCons (gName j2) gNil))) tu D σ H :=
  h H (Ex.refl H) _ fun H1 e => ⟨a, xs, rfl, ex_t e hx, for_it walk_enumT Pv (h0 H1 e) hl (fun i v σ' H2 H3 hi p y => by
    obtain ⟨T, x1, x2, rfl, nT, rfl, e1, e2⟩ := y
    cases e1
    exact ⟨T, _, rfl, st_of upd_same, rfl, _, _, rfl, _, _, rfl, rfl, hs i x2 σ' H2 _ e2 p (Ex.new nT)⟩) hd⟩
/-- enumerate of a list -/
theorem q_enumL {a : Addr} {xs : List V} {ta : TA} {j1 j2 : Nat} (h : EvA ta σ H [.ref a]) (hx : SqL K H a xs) (Pv : Nat → L2.St → Hp → Prop) (h0 : ∀ H1, Ex H H1 → Pv 0 σ H1) (hl : ∀ i σ' H', i ≤ xs.length → Pv i σ' H' → SqL K H' a xs)
    (hs : ∀ i x σ' H' H'', xs[i]? = some x → Pv i σ' H' → Ex H' H'' → tu { D with nx := Pv (i + 1), ct := Pv (i + 1), bk := tz D } ((σ'.set j1 (some (vi i))).set j2 (some x)) H'') (hd : ∀ σ' H', Pv xs.length σ' H' → tz D σ' H') :
    tSeq (tFor (iEnum K ta) (gTup K 2 (gCons (gName j1) (gCons (gName j2) gNil))) tu) tz D σ H :=
  h H (Ex.refl H) _ fun H1 e => ⟨a, xs, rfl, ex_l e hx, for_it (D := { D with nx := tz D }) walk_enum Pv (h0 H1 e) hl (fun i v σ' H2 H3 hi p y => by
    obtain ⟨T, x1, x2, rfl, nT, rfl, e1, e2⟩ := y
    cases e1
    exact ⟨T, _, rfl, st_of upd_same, rfl, _, _, rfl, _, _, rfl, rfl, hs i x2 σ' H2 _ e2 p (Ex.new nT)⟩) hd⟩
end
end Dw
end
section
/-! comprehensions of two fors; new tuples of lists; lists made and changed -/
namespace Dw
open PySem PySem.Spec PyProof.Rows L2 Evl
section
variable {K : PySem.W.Frag} {σ : L2.St} {H H' : Hp} {ta tb te : TE} {t : TT} {x y z v : V} {P : V → Hp → Prop} {D : Ends} {tu tz : TS} {g : TG}
/-- [x] * n -/
theorem el_rep {xs : List V} {n : Nat} (ha : EvL ta σ H xs) (hb : Ev tb σ H (vi n)) (hz : xs.length * n ≤ 100000) (hn : n ≤ 100000) : EvL (tOp rRep ta tb) σ H (List.replicate n xs).flatten := fun H1 e Q q =>
  ha H1 e _ fun p H2 np e2 hp => hb H2 (e.trans e2) _ fun H3 e3 => ⟨p, (n : Int), xs, rfl, rfl, e3 _ _ hp, by omega, by omega, by rw [Int.toNat_natCast]; exact sz_of hz, fun l nl => by
    rw [Int.toNat_natCast]
    exact q l _ (fresh_back (e2.trans e3) nl) ((e2.trans e3).trans (Ex.new nl)) upd_same⟩
theorem rep1 (n : Nat) (v : V) : (List.replicate n [v]).flatten = List.replicate n v := by
  induction n with
  | zero => rfl
  | succ n ih => rw [List.replicate_succ, List.flatten_cons, ih, List.replicate_succ]; rfl
end
end Dw
end
section
/-! zip of two tuples; tuples of values by what holds of them -/
namespace Dw
open PySem PySem.Spec PyProof.Rows L2 Evl RZ
section
variable {K : PySem.W.Frag} {σ : L2.St} {H H' : Hp} {ta tb te : TE} {t : TT} {x y z v : V} {P : V → Hp → Prop} {D : Ends} {tu tz : TS} {g : TG}
end
end Dw
end
section
/-! a new tuple told with its own object (so that its methods may be called); tuple.index of ints -/
namespace Dw
open PySem PySem.Spec PyProof.Rows L2 Evl
/-! readings opened by one step -/
section
variable {σ : L2.St} {H : Hp} {ta tb te : TE} {D : Ends} {g : TG}
theorem do_cons {tr : TA} {Q : List V → Hp → Prop} (h : ta σ H fun x H1 => tr σ H1 fun xs H2 => Q (x :: xs) H2) : tCons ta tr σ H Q := h
theorem do_nil {Q : List V → Hp → Prop} (h : Q [] H) : tNil σ H Q := h
theorem do_op {r : R2} {Q : VK} (h : ta σ H fun x H1 => tb σ H1 fun y H2 => r x y H2 Q) : tOp r ta tb σ H Q := h
theorem do_tup {t : TA} {Q : VK} (h : t σ H fun xs H1 => xs.length ≤ sizeLine ∧ ∀ p, H1 p = none → Q (.ref p) (upd H1 p (.tup xs))) : tTup t σ H Q := h
theorem do_lst {t : TA} {Q : VK} (h : t σ H fun xs H1 => xs.length ≤ sizeLine ∧ ∀ p, H1 p = none → Q (.ref p) (upd H1 p (.lst xs))) : tLst t σ H Q := h
theorem do_cb {r : List V → Hp → VK → Prop} {t : TA} {Q : VK} (h : t σ H fun vs H1 => r vs H1 Q) : tCB r t σ H Q := h
theorem do_test {Q : Bool → Hp → Prop} (h : te σ H fun x H' => ∃ k, x = .bl k ∧ Q k H') : tTest te σ H Q := h
theorem do_ret (h : te σ H D.rt) : tRet te D σ H := h
theorem do_asg (h : te σ H fun x H1 => g x σ H1 D.nx) : tAsg te g D σ H := h
theorem do_seq {t u : TS} (h : t { D with nx := u D } σ H) : tSeq t u D σ H := h
theorem do_if {c : TT} {t u : TS} (h : c σ H fun b H1 => if b = true then t D σ H1 else u D σ H1) : tIfS c t u D σ H := h
theorem do_ev {v : V} {Q : VK} (h : Ev te σ H v) (k : ∀ H1, Ex H H1 → Q v H1) : te σ H Q := h H (Ex.refl H) Q k
theorem do_evL {xs : List V} {Q : VK} (h : EvL te σ H xs) (k : ∀ p H1, H p = none → Ex H H1 → H1 p = some (.lst xs) → Q (.ref p) H1) : te σ H Q := h H (Ex.refl H) Q k
end
section
variable {X : Cx}
def rTupF (K : PySem.W.Frag) : List V → Hp → VK → Prop := fun xs H Q => ∃ p ys, xs = [.ref p] ∧ SqL K H p ys ∧ ∀ l o, H l = none → o.dict = none → Q (.ref l) (upd H l (.frz o (.tup ys)))
theorem call_tupF : CallR X (.type "tuple") (rTupF X.K) := by
  intro pins s σ H xs us Q I r h
  obtain ⟨p, ys, e, isL, q⟩ := h
  subst e
  obtain ⟨u, hu, ru⟩ := vals1 r
  subst hu
  cases (show u = Value.ref p from ru)
  obtain ⟨its, rel, at_, small⟩ := I.list isL
  have many : its.toArray.size ≤ sizeLine := by
    rw [List.size_toArray, ← rel.length]
    exact small
  refine call_tuple_list at_.isList (fun h2 keep => ?_) many
  have J : Inv X pins σ H { s with heap := h2 } := I.kept (t' := s.toks) keep
  let ob : Obj := { cls := .type "tuple", data := .seq its.toArray }
  have got : (h2.push ob).get? h2.objs.size = some ob := Heap.get?_push_size _ rfl
  have okN : ObjOk X.prog X.w (upd H h2.objs.size (.frz ob (.tup ys))) (h2.push ob) h2.objs.size (.frz ob (.tup ys)) := ⟨got, small, its, rel, ob, got, rfl, _, rfl⟩
  have J2 := J.laid (t' := s.toks) (h' := h2.push ob) (fun b o e => Heap.get?_push_of_some _ e) (Nat.le_refl h2.objs.size) okN
  exact ⟨.ref h2.objs.size, _, J2, rfl, q _ ob (J.hok.fresh (Nat.le_refl _)) rfl⟩
end
end Dw
end
section
/-! data of tracked things: what repr and == want of it -/
namespace Dw
open PySem PySem.Spec PyProof.Rows L2 Evl
/-- small data: depth at most k, weight at most W -/
structure Gd (k W : Nat) (d : PyData) : Prop where
  lay : d.canLay0 = true
  dep : d.depth ≤ k
  wgt : d.weight ≤ W
  its : d.intsShort 13 = true
  sho : d.showable = true
theorem Gd.mono {k W k' W' : Nat} {d : PyData} (h : Gd k W d) (a : k ≤ k') (b : W ≤ W') : Gd k' W' d := ⟨h.lay, Nat.le_trans h.dep a, Nat.le_trans h.wgt b, h.its, h.sho⟩
theorem log_low {n : Nat} (h : n ≤ 1000) : n.log2 ≤ 9 := by
  by_cases z : n = 0
  · subst z
    decide
  · exact Nat.le_of_lt_succ ((Nat.log2_lt z).mpr (by have e : 2 ^ 10 = 1024 := by decide
                                                     omega))
theorem gd_int {n : Nat} (h : n ≤ 1000) : Gd 0 10 (.int (n : Int)) := by
  have l := log_low h
  refine ⟨by rw [PyData.canLay0], by rw [PyData.depth]; exact Nat.le_refl _, ?_, ?_, ?_⟩
  · rw [PyData.weight, Int.natAbs_natCast]
    split <;> omega
  · rw [PyData.intsShort]
    exact decide_eq_true (PyData.shown_int_le2 (by omega) (by omega))
  · rw [PyData.showable, Int.natAbs_natCast]
    exact decide_eq_true (by omega)
theorem gd_str {z : Str} (h : ∀ c ∈ z.cps.toList, c < 0x110000) (l : z.cps.size ≤ 100) : Gd 0 100 (.str z) := by
  refine ⟨?_, by rw [PyData.depth]; exact Nat.le_refl _, by rw [PyData.weight]; exact l, by rw [PyData.intsShort], by rw [PyData.showable]⟩
  rw [PyData.canLay0]
  show z.cps.all (· < 0x110000) = true
  rw [Array.all_eq_true]
  intro i hi
  exact decide_eq_true (h _ (by rw [Array.mem_toList_iff]; exact Array.getElem_mem hi))
theorem gd_all {k W : Nat} : ∀ {ds : List PyData}, (∀ d ∈ ds, Gd k W d) → PyData.canLayAll0 ds = true ∧ PyData.depthAll ds ≤ k ∧ PyData.weightAll ds ≤ ds.length * (W + 1) ∧ PyData.intsShortAll 13 ds = true ∧ PyData.showableAll ds = true
  | [], _ => ⟨by rw [PyData.canLayAll0], by rw [PyData.depthAll]; exact Nat.zero_le _, by rw [PyData.weightAll]; exact Nat.zero_le _, by rw [PyData.intsShortAll], by rw [PyData.showableAll]⟩
  | d :: ds, h => by
    obtain ⟨a, b, c, e, f⟩ := gd_all (ds := ds) fun x hx => h x (List.mem_cons_of_mem _ hx)
    have g := h d (List.mem_cons_self ..)
    refine ⟨by rw [PyData.canLayAll0, g.lay, a]; rfl, by rw [PyData.depthAll]; exact Nat.max_le.mpr ⟨g.dep, b⟩, ?_, by rw [PyData.intsShortAll, g.its, e]; rfl, by rw [PyData.showableAll, g.sho, f]; rfl⟩
    have w := g.wgt
    rw [PyData.weightAll, List.length_cons, Nat.succ_mul]
    omega
theorem gd_tup {k W L : Nat} {ds : List PyData} (h : ∀ d ∈ ds, Gd k W d) (l : ds.length ≤ L) : Gd (k + 1) (L * (W + 1)) (.tuple ds) := by
  obtain ⟨a, b, c, e, f⟩ := gd_all h
  exact ⟨by rw [PyData.canLay0]; exact a, by rw [PyData.depth]; omega, by rw [PyData.weight]; exact Nat.le_trans c (Nat.mul_le_mul_right _ l), by rw [PyData.intsShort]; exact e, by rw [PyData.showable]; exact f⟩
theorem gd_lst {k W L : Nat} {ds : List PyData} (h : ∀ d ∈ ds, Gd k W d) (l : ds.length ≤ L) : Gd (k + 1) (L * (W + 1)) (.list ds) := by
  obtain ⟨a, b, c, e, f⟩ := gd_all h
  exact ⟨by rw [PyData.canLay0]; exact a, by rw [PyData.depth]; omega, by rw [PyData.weight]; exact Nat.le_trans c (Nat.mul_le_mul_right _ l), by rw [PyData.intsShort]; exact e, by rw [PyData.showable]; exact f⟩
theorem Gd.len {k W : Nat} {d : PyData} (h : Gd k W d) (a : k ≤ 60) (b : W ≤ 1000000) : d.shown.length ≤ sizeLine := by
  have w := h.wgt
  have dp := h.dep
  have l0 : d.layable0 = true := by
    show (d.canLay0 && decide (d.depth ≤ 64) && decide (d.weight ≤ 2 ^ 20)) = true
    have e : (2 : Nat) ^ 20 = 1048576 := by decide
    rw [h.lay, decide_eq_true (show d.depth ≤ 64 by omega), decide_eq_true (show d.weight ≤ 2 ^ 20 by omega)]
    rfl
  have z := shown_le13 l0 h.its
  rw [sizeLine_eq]
  omega
theorem Gd.shaped {k W : Nat} {d : PyData} (h : Gd k W d) (a : k ≤ 60) : SeqAt.shaped d = true := by
  have dp := h.dep
  show (d.canLay0 && decide (d.depth ≤ 64)) = true
  rw [h.lay, decide_eq_true (show d.depth ≤ 64 by omega)]
  rfl
/-! things of the hand layer as data -/
section
variable {K : PySem.W.Frag} {H : Hp}
def dN (ns : List Nat) : PyData := .tuple (ns.map fun n => .int ((n : Nat) : Int))
theorem dps_nats : ∀ ns : List Nat, DpAll K H (ns.map vi) (ns.map fun n => .int ((n : Nat) : Int))
  | [] => .nil
  | n :: ns => .cons (.int _) (dps_nats ns)
theorem Nats.dp {v : V} {ns : List Nat} (h : Nats K H v ns) : Dp K H v (dN ns) := by
  obtain ⟨a, e, s⟩ := h
  subst e
  exact .tup s (dps_nats ns)
theorem dps_paired {β : Type} {R : V → β → Prop} {f : β → PyData} (h : ∀ v b, R v b → Dp K H v (f b)) : ∀ {vs : List V} {bs : List β}, Paired R vs bs → DpAll K H vs (bs.map f)
  | [], [], .nil => .nil
  | _ :: _, _ :: _, .cons r p => .cons (h _ _ r) (dps_paired h p)
def dM (n : Nat) (ts : List (List Nat)) : PyData := .tuple [.int (n : Int), .tuple (ts.map dN)]
theorem Mdl.dp {v : V} {n : Nat} {ts : List (List Nat)} (h : Mdl K H v n ts) : Dp K H v (dM n ts) := by
  obtain ⟨a, u, e, s, b, vs, e2, s2, p⟩ := h
  subst e e2
  exact .tup s (.cons (.int _) (.cons (.tup s2 (dps_paired (fun _ _ z => Nats.dp z) p)) .nil))
def dS (sg : List (Str × Nat)) : PyData := .tuple (sg.map fun p => .tuple [.str p.1, .int ((p.2 : Nat) : Int)])
theorem Sig.dp {v : V} {sg : List (Str × Nat)} (h : Sig K H v sg) : Dp K H v (dS sg) := by
  obtain ⟨a, vs, e, s, p⟩ := h
  subst e
  refine .tup s (dps_paired (fun v q z => ?_) p)
  obtain ⟨b, e, s⟩ := z
  subst e
  exact .tup s (.cons (.str _) (.cons (.int _) .nil))
theorem gd_nats {ns : List Nat} (h : ∀ n ∈ ns, n ≤ 1000) (l : ns.length ≤ 36) : Gd 1 396 (dN ns) := by
  refine gd_tup (k := 0) (W := 10) (L := 36) (fun d hd => ?_) (by rw [List.length_map]; exact l)
  obtain ⟨n, hn, e⟩ := List.mem_map.mp hd
  subst e
  exact gd_int (h n hn)
theorem gd_sig {sg : List (Str × Nat)} (h : ∀ p ∈ sg, (∀ c ∈ p.1.cps.toList, c < 0x110000) ∧ p.1.cps.size ≤ 100 ∧ p.2 ≤ 1000) (l : sg.length ≤ 4) : Gd 2 812 (dS sg) := by
  refine gd_tup (k := 1) (W := 202) (L := 4) (fun d hd => ?_) (by rw [List.length_map]; exact l)
  obtain ⟨p, hp, e⟩ := List.mem_map.mp hd
  subst e
  obtain ⟨a, b, c⟩ := h p hp
  refine gd_tup (k := 0) (W := 100) (L := 2) (fun d hd => ?_) (Nat.le_refl 2)
  rcases List.mem_cons.mp hd with e | hd
  · subst e
    exact gd_str a b
  · rw [List.mem_singleton.mp hd]
    exact (gd_int c).mono (by decide) (by decide)
end
end Dw
end
section
/-! dict(a tuple of pairs), the tuple told with its own object -/
namespace Dw
open PySem PySem.Spec PyProof.Rows L2 Evl
section
variable {X : Cx}
/-- the pairs of tracked tuples: their values, and what they are as keys -/
theorem pairs_vals {pins : List (Addr × Obj)} {σ : L2.St} {H : Hp} {s : Shared} (I : Inv X pins σ H s) : ∀ {ps : List Addr} {kvs : List (Key × V)}, Paired (fun p kv => SqT X.K H p [kV kv.1, kv.2]) ps kvs →
    ∃ (kl : List (Value × Value)) (prs : List (Key × Value)), KV kvs prs ∧ kl.length = ps.length ∧ prs.length = ps.length ∧ ∀ (j : Nat) (b : Addr), ps[j]? = some b → ∃ k v key, kl[j]? = some (k, v) ∧ prs[j]? = some (key, v) ∧ s.heap.IsTuple b #[k, v] ∧ (mixKind X.prog X.w).is key k = true
  | [], [], .nil => ⟨[], [], .nil, rfl, rfl, fun j b e => by rw [List.getElem?_nil] at e; cases e⟩
  | p :: ps, kv :: kvs, .cons here rest => by
    obtain ⟨kl, prs, rel, l1, l2, each⟩ := pairs_vals I rest
    obtain ⟨cells, rc, tup, _⟩ := I.tuple here
    obtain ⟨u, y, isTwo, ru, ry⟩ := vals2 rc
    subst isTwo
    refine ⟨(u, y) :: kl, (kv.1, y) :: prs, .cons ⟨rfl, ry⟩ rel, by rw [List.length_cons, List.length_cons, l1], by rw [List.length_cons, List.length_cons, l2], fun j b e => ?_⟩
    match j, e with
    | 0, e =>
      cases Option.some.inj (show some p = some b from e)
      exact ⟨u, y, kv.1, rfl, rfl, tup, kV_is (P := X.prog) (w := X.w) ru⟩
    | j + 1, e => exact each j b e
def rDictT (K : PySem.W.Frag) : List V → Hp → VK → Prop := fun xs H Q => ∃ (a : Addr) (o : Obj) (ps : List Addr) (kvs : List (Key × V)), xs = [.ref a] ∧ H a = some (.frz o (.tup (ps.map V.ref))) ∧ o.dict = none ∧
  Paired (fun p kv => SqT K H p [kV kv.1, kv.2]) ps kvs ∧ ∀ p, H p = none → Q (.ref p) (upd H p (.dK (mergeK [] kvs)))
theorem call_dictT (calm : X.calm = true) : CallR X (.type "dict") (rDictT X.K) := by
  intro pins s σ H vs us Q I rel want
  obtain ⟨a, o, ps, kvs, one, ha, hd, pairs, q⟩ := want
  subst one
  obtain ⟨u, isU, ru⟩ := vals1 rel
  subst isU
  cases (show u = Value.ref a from ru)
  have held : ObjOk X.prog X.w H s.heap a (.frz o (.tup (ps.map V.ref))) := I.hok a _ ha
  obtain ⟨at_, small, its, relI, o2, at2, cls, cap, dat⟩ := held
  rw [at_] at at2
  cases at2
  have isRefs := refs_at relI
  subst isRefs
  rw [List.length_map] at small
  obtain ⟨kl, prs, kv, lenK, lenP, each⟩ := pairs_vals I pairs
  have calm' : X.A.in1.handled = none := I.ok.hd calm
  have items : PairItems s.heap (ps.map Value.ref).toArray (fun j => ps.getD j 0) kl := by
    refine ⟨by rw [List.size_toArray, List.length_map, lenK], fun j k v hj => ?_⟩
    have jl : j < ps.length := by rw [← lenK]; exact (List.getElem?_eq_some_iff.mp hj).1
    obtain ⟨k1, v1, key, e1, _, tup, _⟩ := each j _ (List.getElem?_eq_getElem jl)
    rw [hj] at e1
    cases Option.some.inj e1
    have eb : ps.getD j 0 = ps[j] := by rw [List.getD_eq_getElem?_getD, List.getElem?_eq_getElem jl]; rfl
    refine ⟨?_, ?_⟩
    · show (ps.map Value.ref).toArray[j]? = some (.ref (ps.getD j 0))
      rw [List.getElem?_toArray, List.getElem?_map, List.getElem?_eq_getElem jl, eb]
      rfl
    · show PairAt s.heap (ps.getD j 0) k v
      rw [eb]
      exact .inl tup
  have have_ : PairsHave (mixKind X.prog X.w) kl.length (PairRel kl) prs := by
    refine ⟨by rw [lenP, lenK], fun j k v hj => ?_⟩
    have jl : j < ps.length := by rw [← lenK]; exact (List.getElem?_eq_some_iff.mp hj).1
    obtain ⟨k1, v1, key, e1, e2, _, is⟩ := each j _ (List.getElem?_eq_getElem jl)
    have e1' : kl[j]? = some (k, v) := hj
    rw [e1'] at e1
    cases Option.some.inj e1
    exact ⟨key, e2, is⟩
  refine PySem.call_dict_pairs (knd := mixKind X.prog X.w) (kvs := prs) (PairArg.tuple a (ps.map Value.ref).toArray (fun j => ps.getD j 0) kl) calm' ⟨⟨_, cap, at_, cls, hd, dat⟩, items⟩ have_ (by rw [lenK]; exact small) fun h' tk isD same => ?_
  have far : (s.heap.objs.size == sysModules) = false := beq_eq_false_iff_ne.mpr (Nat.ne_of_gt I.big)
  have fits : (mergeK [] kvs).length ≤ sizeLine := by
    have l1 := length_mergeK kvs []
    have l2 := kv.length
    rw [List.length_nil] at l1
    omega
  have new : ObjOk X.prog X.w (upd H s.heap.objs.size (.dK (mergeK [] kvs))) h' s.heap.objs.size (.dK (mergeK [] kvs)) := ⟨fits, far, merged [] prs, KV.merge kv .nil, isD⟩
  exact ⟨.ref s.heap.objs.size, _, I.laid (t' := tk) (fun b ob e => same b ob (fun z => nomatch z) e) (Nat.le_refl s.heap.objs.size) new, rfl, q _ (I.hok.fresh (Nat.le_refl _))⟩
end
end Dw
end
section
/-! sets of texts, their table known well enough that they can be walked: add, set(a list), sorted -/
namespace Dw
open PySem PySem.Spec PyProof.Rows L2
/-- the text of an entry -/
def txtOf (e : Int × Value) : Str := match e.2 with | .str x _ => x | _ => Str.empty
def IsTxt (w : World) (e : Int × Value) : Prop := ∃ x tk, e.2 = Value.str x tk ∧ e.1 = hashStr w x
/-- a set at a whose members are the texts ks, each once, in the order in which they came -/
structure TxtSet (w : World) (h : Heap) (a : Addr) (ks : List Str) : Prop where
  ex : ∃ o es ep t, h.get? a = some o ∧ o.ExactSet ∧ o.data = .set es ep t ∧ (∀ e ∈ es.toList, IsTxt w e) ∧ (es.toList.map txtOf).Perm ks ∧ t.fits es.size = true ∧ Ris t.place.toList ∧ (w.params.followText "set-order" = true ∨ t.led = true)
  nd : ks.Nodup
  few : ks.length < scanBound
section
variable {P : Program} {w : World} {A : Around} {E : Value → Shared → Prop} {s : Shared} {a : Addr} {ks : List Str}
theorem TxtSet.at {h h' : Heap} (T : TxtSet w h a ks) (same : ∀ o, h.get? a = some o → h'.get? a = some o) : TxtSet w h' a ks := by
  obtain ⟨o, es, ep, t, at_, rest⟩ := T.ex
  exact ⟨⟨o, es, ep, t, same o at_, rest⟩, T.nd, T.few⟩
end
end Dw
end
section
namespace Dw
open PySem PySem.Spec PyProof.Rows L2
/-- x behind them, where it isn't among them -/
def addK (ks : List Str) (x : Str) : List Str := if x ∈ ks then ks else ks ++ [x]
/-- each once, as they first come -/
def firsts (xs : List Str) : List Str := xs.foldl addK []
theorem mem_fold {y : Str} : ∀ (xs ks : List Str), y ∈ xs.foldl addK ks ↔ y ∈ ks ∨ y ∈ xs
  | [], ks => by simp
  | x :: xs, ks => by
    rw [List.foldl_cons, mem_fold xs, List.mem_cons]
    unfold addK
    split
    · rename_i h
      constructor
      · rintro (a | a)
        · exact .inl a
        · exact .inr (.inr a)
      · rintro (a | a | a)
        · exact .inl a
        · exact .inl (a ▸ h)
        · exact .inr a
    · rw [List.mem_append, List.mem_singleton]
      constructor
      · rintro ((a | a) | a)
        · exact .inl a
        · exact .inr (.inl a)
        · exact .inr (.inr a)
      · rintro (a | a | a)
        · exact .inl (.inl a)
        · exact .inl (.inr a)
        · exact .inr a
theorem mem_firsts {xs : List Str} {y : Str} : y ∈ firsts xs ↔ y ∈ xs := by
  unfold firsts
  rw [mem_fold]
  simp
section
variable {P : Program} {w : World} {A : Around} {E : Value → Shared → Prop} {s : Shared}
end
end Dw
end
section
/-! rules over sets of texts: set(a list), sorted(the set) -/
namespace Dw
open PySem PySem.Spec PyProof.Rows L2
section
variable {P : Program} {w : World} {A : Around} {E : Value → Shared → Prop} {s : Shared} {a : Addr} {ks : List Str}
end
section
variable {X : Cx}
end
end Dw
end
section
/-! a tuple turned about, t[::-1]; a list made longer by a tuple -/
namespace Dw
open PySem PySem.Spec PyProof.Rows L2
section
variable {P : Program} {w : World} {A : Around} {E : Value → Shared → Prop} {s : Shared}
end
section
variable {X : Cx}
end
end Dw
end
section
/-! dict(zip(a, b)), a and b lists or tuples -/
namespace Dw
open PySem PySem.Spec PyProof.Rows L2 Evl
section
variable {prog : Program} {w : World} {A : Around} {E : Value → Shared → Prop} {s : Shared} {z TI TO T p q : Addr} {F G : List Addr} {n m i : Nat} {P R : Nat → Value → Prop} {U V : Nat → Heap → Prop} {f : Bool} {oT : Obj}
end
/-- a list or a tuple, and its walker -/
def SqO (t : Bool) (h : Heap) (l : Addr) (xs : Array Value) : Prop := if t = true then h.IsTuple l xs else h.IsList l xs
def SqI (t : Bool) (it l : Addr) (xs : Array Value) (i : Nat) (h : Heap) : Prop := if t = true then h.IsTupleIter it l i ∧ h.IsTuple l xs else h.IsListIter it l i ∧ h.IsList l xs
theorem SqI.draws {prog : Program} {w : World} {A : Around} (t : Bool) (quiet : A.handled = none) {it l : Addr} (ne : l ≠ it) (xs : Array Value) : Draws prog w A it [it, l] xs.size (fun i v => xs[i]? = some v) (SqI t it l xs) := by
  cases t
  · exact Draws.list quiet it l ne xs
  · exact Draws.tuple quiet it l ne xs
theorem SqI.keep {t : Bool} {it l : Addr} {xs : Array Value} {i : Nat} {h h' : Heap} (x : SqI t it l xs i h) (k : ∀ b, b = it ∨ b = l → ∀ o, h.get? b = some o → h'.get? b = some o) : SqI t it l xs i h' := by
  cases t
  · exact And.intro (x.1.at fun o e => k it (.inl rfl) o e) (x.2.at fun o e => k l (.inr rfl) o e)
  · exact And.intro (x.1.at fun o e => k it (.inl rfl) o e) (x.2.at fun o e => k l (.inr rfl) o e)
theorem SqI.there {t : Bool} {it l : Addr} {xs : Array Value} {i : Nat} {h : Heap} (x : SqI t it l xs i h) : (∃ o, h.get? it = some o) ∧ ∃ o, h.get? l = some o := by
  cases t
  · obtain ⟨⟨o, a, _⟩, ⟨o2, b, _⟩⟩ := x
    exact ⟨⟨o, a⟩, ⟨o2, b⟩⟩
  · obtain ⟨⟨o, a, _⟩, ⟨o2, b, _⟩⟩ := x
    exact ⟨⟨o, a⟩, ⟨o2, b⟩⟩
/-! the expression -/
theorem SqO.lt {t : Bool} {h : Heap} {l : Addr} {xs : Array Value} (x : SqO t h l xs) : l < h.objs.size := by
  cases t
  · obtain ⟨o, e, _⟩ := (show h.IsList l xs from x)
    exact Heap.lt_size e
  · obtain ⟨o, e, _⟩ := (show h.IsTuple l xs from x)
    exact Heap.lt_size e
abbrev itOf (t : Bool) (l : Addr) : Obj := { cls := .type (if t = true then "tuple_iterator" else "list_iterator"), data := .fields #[.ref l, .int 0 0] }
theorem SqI.start {t : Bool} {h h' : Heap} {it l : Addr} {xs : Array Value} (x : SqO t h l xs) (k : ∀ b o, h.get? b = some o → h'.get? b = some o) (e : h'.get? it = some (itOf t l)) : SqI t it l xs 0 h' := by
  cases t
  · exact And.intro ⟨_, e, rfl, rfl⟩ (Heap.IsList.at (show h.IsList l xs from x) fun o q => k l o q)
  · exact And.intro ⟨_, e, rfl, rfl⟩ (Heap.IsTuple.at (show h.IsTuple l xs from x) fun o q => k l o q)
end Dw
end
section
/-! promises of new lists; comprehensions over a zip; tuple.index of texts; wider sums -/
namespace Dw
open PySem PySem.Spec PyProof.Rows L2 Evl RZ
section
variable {K : PySem.W.Frag} {σ : L2.St} {H H' : Hp} {ta tb te : TE} {t : TT} {x y z v : V} {D : Ends} {tu tz : TS} {g : TG}
theorem ev_divM {a b : Nat} (ha : Ev ta σ H (vi a)) (hb : Ev tb σ H (vi b)) (b0 : 0 < b) (lb : b ≤ 100000) : Ev (tOp (rI CDiv fun i j => .int (i / j)) ta tb) σ H (vi (a / b)) := ev_is (ev_op ha hb (rv_I ⟨by omega, by omega⟩)) (by show V.int ((a : Int) / (b : Int)) = V.int ((a / b : Nat) : Int); rw [Int.natCast_ediv])
theorem ev_modM {a b : Nat} (ha : Ev ta σ H (vi a)) (hb : Ev tb σ H (vi b)) (b0 : 0 < b) : Ev (tOp (rI (fun _ j => 0 < j) fun i j => .int (i % j)) ta tb) σ H (vi (a % b)) := ev_is (ev_op ha hb (rv_I (by show (0 : Int) < (b : Int); omega))) (by show V.int ((a : Int) % (b : Int)) = V.int ((a % b : Nat) : Int); rw [Int.natCast_emod])
theorem ev_subM {a b : Nat} (ha : Ev ta σ H (vi a)) (hb : Ev tb σ H (vi b)) (l : b ≤ a) : Ev (tOp (rI0 fun i j => .int (i - j)) ta tb) σ H (vi (a - b)) := ev_is (ev_op ha hb rv_I0) (by show V.int ((a : Int) - (b : Int)) = V.int ((a - b : Nat) : Int); congr 1; omega)
theorem ev_addM {a b : Nat} (ha : Ev ta σ H (vi a)) (hb : Ev tb σ H (vi b)) : Ev (tOp (rI0 fun i j => .int (i + j)) ta tb) σ H (vi (a + b)) := ev_is (ev_op ha hb rv_I0) (by show V.int ((a : Int) + (b : Int)) = V.int ((a + b : Nat) : Int); rw [Int.natCast_add])
end
section
variable {X : Cx}
/-- two rules for one subscript, two for one call -/
theorem ix_or {r r' : R2} (h : IxR X r) (h' : IxR X r') : IxR X (fun x y H Q => r x y H Q ∨ r' x y H Q) := fun e1 e2 pins s σ H x y v u Q I rx ry h0 e => by
  rcases h0 with h0 | h0
  · exact h e1 e2 pins s σ H x y v u Q I rx ry h0 e
  · exact h' e1 e2 pins s σ H x y v u Q I rx ry h0 e
theorem call_or {f : Value} {r r' : List V → Hp → VK → Prop} (h : CallR X f r) (h' : CallR X f r') : CallR X f (fun xs H Q => r xs H Q ∨ r' xs H Q) := fun pins s σ H xs us Q I rx h0 => by
  rcases h0 with h0 | h0
  · exact h pins s σ H xs us Q I rx h0
  · exact h' pins s σ H xs us Q I rx h0
end
end Dw
end
section
/-! for k, (a, b) in enumerate(zip(two lists)) -/
namespace Dw
open PySem PySem.Spec PyProof.Rows L2 Evl RZ
section
variable {prog : Program} {w : World} {A : Around} {E : Value → Shared → Prop} {s : Shared}
end
/-! a turn of a zip that may use its own tuple again -/
abbrev ZipF (h : Heap) (z TI TO : Addr) (f0 f1 : Value) : Prop := h.get? z = some { cls := .type "zip", dict := none, data := .fields #[f0, f1, .bool false, .ref TI, .ref TO], slots := #[] }
section
variable {prog : Program} {w : World} {A : Around} {E : Value → Shared → Prop} {s : Shared} {z TI TO T p q : Addr} {F G : List Addr} {n m i : Nat} {P R : Nat → Value → Prop} {U V : Nat → Heap → Prop} {f0 f1 a1 a2 : Value}
/-! next of a zip, whatever its own tuple is -/
/-- what stands of a zip between two turns -/
def ZTn (z TI TO p q a b : Addr) (i : Nat) (h : Heap) : Prop := IsTupOf2 h TI (.ref p) (.ref q) ∧ (∃ x y, IsTupOf2 h TO x y) ∧ (ZipF h z TI TO .none (.bool false) ∨ ∃ T f, IsZipHeld h z TI TO T f) ∧ h.IsListIter p a i ∧ h.IsListIter q b i
end
end Dw
end
section
/-! for k, (a, b) in enumerate(zip(two lists)): the walker -/
namespace Dw
open PySem PySem.Spec PyProof.Rows L2 Evl RZ
theorem ZTn.keep {z TI TO p q a b : Addr} {i : Nat} {h h' : Heap} (st : ZTn z TI TO p q a b i h) (k : ∀ c ∈ [z, TI, TO, p, q], ∀ o, h.get? c = some o → h'.get? c = some o) : ZTn z TI TO p q a b i h' := by
  obtain ⟨c1, ⟨x, y, c2⟩, c3, c4, c5⟩ := st
  refine ⟨k _ (by simp) _ c1, ⟨x, y, k _ (by simp) _ c2⟩, ?_, c4.at fun o e => k p (by simp) o e, c5.at fun o e => k q (by simp) o e⟩
  rcases c3 with c3 | ⟨T, f, c3⟩
  · exact .inl (k _ (by simp) _ c3)
  · exact .inr ⟨T, f, k _ (by simp) _ c3⟩
theorem FpOk.new {X : Cx} {pins : List (Addr × Obj)} {H : Hp} {b T : Addr} {o : HO} (h : FpOk X pins H b) (ne : b ≠ T) : FpOk X pins (upd H T o) b := ⟨by rw [upd_ne ne]; exact h.1, h.2⟩
end Dw
end
section
/-! enumerate(zip(two lists)): the expression -/
namespace Dw
open PySem PySem.Spec PyProof.Rows L2 Evl RZ
end Dw
end
section
/-! l.extend(any tuple that is read) -/
namespace Dw
open PySem PySem.Spec PyProof.Rows L2 Evl RZ
section
variable {X : Cx}
end
end Dw
end
section
/-! [.. for k, (a, b) in enumerate(zip(two lists)) if ..] -/
namespace Dw
open PySem PySem.Spec PyProof.Rows L2 Evl RZ
section
variable {K : PySem.W.Frag} {σ : L2.St} {H H' : Hp} {te : TE} {tt : TT}
end
end Dw
end
section
/-! t.index(x), x any small data -/
namespace Dw
open PySem PySem.Spec PyProof.Rows L2 Evl RZ
end Dw
end
section
namespace Dw
open PySem PySem.Spec PyProof.Rows L2
/-! list(a text): its signs -/
end Dw
end
section
/-! zip(a list, a tuple): as many pairs as the shorter has -/
namespace Dw
open PySem PySem.Spec PyProof.Rows L2 Evl RZ
def StandsM (z TI TO i1 i2 a b : Addr) (i : Nat) (hp : Heap) : Prop := IsZip hp z TI TO .none ∧ IsTupOf2 hp TI (.ref i1) (.ref i2) ∧ (∃ x y, IsTupOf2 hp TO x y) ∧ hp.IsListIter i1 a i ∧ hp.IsTupleIter i2 b i
theorem five {c z TI TO i1 i2 : Addr} {P : Addr → Prop} (h : c ∈ [z, TI, TO, i1, i2]) (p1 : P z) (p2 : P TI) (p3 : P TO) (p4 : P i1) (p5 : P i2) : P c := by
  simp only [List.mem_cons, List.not_mem_nil, or_false] at h
  rcases h with e | e | e | e | e <;> (rw [e]; assumption)
theorem StandsM.low {z TI TO i1 i2 a b : Addr} {i : Nat} {hp : Heap} (st : StandsM z TI TO i1 i2 a b i hp) {c : Addr} (h : c ∈ [z, TI, TO, i1, i2]) : c < hp.objs.size := by
  obtain ⟨hz, hI, ⟨x, y, hO⟩, ⟨o1, e1, _⟩, ⟨o2, e2, _⟩⟩ := st
  exact five (P := fun c => c < hp.objs.size) h (Heap.lt_size hz) (Heap.lt_size hI) (Heap.lt_size hO) (Heap.lt_size e1) (Heap.lt_size e2)
end Dw
end
section
/-! dicts told with the same keys and the same data -/
namespace Dw
open PySem PySem.Spec PyProof.Rows L2 Evl RZ
section
variable {X : Cx}
end
end Dw
end
section
/-! zip(a tuple, a list): as many pairs as the shorter has -/
namespace Dw
open PySem PySem.Spec PyProof.Rows L2 Evl RZ
def StandsN (z TI TO i1 i2 a b : Addr) (i : Nat) (hp : Heap) : Prop := IsZip hp z TI TO .none ∧ IsTupOf2 hp TI (.ref i1) (.ref i2) ∧ (∃ x y, IsTupOf2 hp TO x y) ∧ hp.IsTupleIter i1 a i ∧ hp.IsListIter i2 b i
theorem StandsN.low {z TI TO i1 i2 a b : Addr} {i : Nat} {hp : Heap} (st : StandsN z TI TO i1 i2 a b i hp) {c : Addr} (h : c ∈ [z, TI, TO, i1, i2]) : c < hp.objs.size := by
  obtain ⟨hz, hI, ⟨x, y, hO⟩, ⟨o1, e1, _⟩, ⟨o2, e2, _⟩⟩ := st
  exact five (P := fun c => c < hp.objs.size) h (Heap.lt_size hz) (Heap.lt_size hI) (Heap.lt_size hO) (Heap.lt_size e1) (Heap.lt_size e2)
end Dw
end
section
/-! list(zip(a, b)) -/
namespace Dw
open PySem PySem.Spec PyProof.Rows L2 Evl
/-- what a zip under way is, with S apart -/
structure ZG (z TI TO p q a b S : Addr) (t1 t2 : Bool) (xs ys : Array Value) (i : Nat) (h : Heap) : Prop where
  ti : IsTupOf2 h TI (.ref p) (.ref q)
  s1 : SqI t1 p a xs i h
  s2 : SqI t2 q b ys i h
  st : (IsZip h z TI TO .none ∧ ∃ x y, IsTupOf2 h TO x y) ∨ ∃ T f oT, IsZipHeld h z TI TO T f ∧ h.get? T = some oT ∧ T ≠ z ∧ T ≠ p ∧ T ≠ q ∧ T ≠ S
theorem ZG.keep {z TI TO p q a b S : Addr} {t1 t2 : Bool} {xs ys : Array Value} {i : Nat} {h h' : Heap} (g : ZG z TI TO p q a b S t1 t2 xs ys i h) (far : ∀ c ∈ [z, TI, TO, p, q, a, b], c < S) (k : ∀ c o, c ≠ S → h.get? c = some o → h'.get? c = some o) : ZG z TI TO p q a b S t1 t2 xs ys i h' := by
  have nz : ∀ c ∈ [z, TI, TO, p, q, a, b], c ≠ S := fun c hc => Nat.ne_of_lt (far c hc)
  obtain ⟨e1, e2, e3, e4⟩ := g
  refine ⟨k _ _ (nz TI (by simp)) e1, e2.keep fun c hc o e => ?_, e3.keep fun c hc o e => ?_, ?_⟩
  · rcases hc with x | x <;> subst x <;> exact k _ o (nz _ (by simp)) e
  · rcases hc with x | x <;> subst x <;> exact k _ o (nz _ (by simp)) e
  · rcases e4 with ⟨isZ, x, y, isO⟩ | ⟨T, f, oT, isZ, atT, r1, r2, r3, r4⟩
    · exact .inl ⟨k _ _ (nz z (by simp)) isZ, x, y, k _ _ (nz TO (by simp)) isO⟩
    · exact .inr ⟨T, f, oT, k _ _ (nz z (by simp)) isZ, k _ _ r4 atT, r1, r2, r3, r4⟩
section
variable {prog : Program} {w : World} {A : Around} {E : Value → Shared → Prop} {s : Shared} {z TI TO p q a b S : Addr} {t1 t2 : Bool} {xs ys : Array Value} {i : Nat}
end
/-- the pairs at their addresses -/
structure ZPr (xs ys : Array Value) (lo : Addr) (h : Heap) (as : List Addr) : Prop where
  rise : as.Pairwise (· < ·)
  above : ∀ a ∈ as, lo < a
  pairs : ∀ (j : Nat) (a : Addr), as[j]? = some a → ∃ x y, xs[j]? = some x ∧ ys[j]? = some y ∧ IsTupOf2 h a x y
theorem ZPr.there {xs ys : Array Value} {lo : Addr} {h : Heap} {as : List Addr} (g : ZPr xs ys lo h as) {a : Addr} (ha : a ∈ as) : a < h.objs.size := by
  obtain ⟨j, hj⟩ := List.mem_iff_getElem?.mp ha
  obtain ⟨_, _, _, _, e⟩ := g.pairs j a hj
  exact Heap.lt_size e
section
variable {prog : Program} {w : World} {A : Around} {s : Shared} {R : Result → Shared → Prop} {z TI TO p q a b S : Addr} {t1 t2 : Bool} {xs ys : Array Value}
end
section
variable {prog : Program} {w : World} {A : Around} {E : Value → Shared → Prop} {s : Shared} {z TI TO p q a b : Addr} {t1 t2 : Bool} {xs ys : Array Value}
end
/-! laid down -/
end Dw
end
section
/-! a tuple times 0 or 1 -/
namespace Dw
open PySem PySem.Spec PyProof.Rows L2
end Dw
end
section
/-! a caught exception that is kept: it is told from the catch on, so that isinstance can be asked of it behind the try -/
namespace Dw
open PySem PySem.Spec PyProof.Rows L2
/-- an exception of the class cls, that is no longer in the air -/
def ExcAt (a : Addr) (cls : Value) (d : Option Addr) : HO := .ext fun h => ∃ ob fv, h.get? a = some ob ∧ Zc cls d ob ∧ ob.data = .fields fv
section
variable {X : Cx} {pins : List (Addr × Obj)} {σ : L2.St} {H : Hp} {s : Shared}
theorem excAt_ok {P : Program} {w : World} {h : Heap} {a : Addr} {ob : Obj} {fv : Array Value} {cls : Value} {d : Option Addr} (e : h.get? a = some ob) (z : Zc cls d ob) (f : ob.data = .fields fv) : ObjOk P w H h a (ExcAt a cls d) :=
  ⟨⟨ob, fv, e, z, f⟩, ⟨ob, e⟩, fun _ _ ⟨o, v, e1, z1, f1⟩ k => ⟨o, v, k o e1, z1, f1⟩⟩
/-- an object that stands, is new since the def began and was not told, is told from now on -/
theorem track {a : Addr} {ob : Obj} {fv : Array Value} {cls : Value} {d : Option Addr} (I : Inv X pins σ H s) (e : s.heap.get? a = some ob) (z : Zc cls d ob) (f : ob.data = .fields fv) (na : H a = none) (new : X.s_0.heap.get? a = none) (nL : a ≠ X.env.locals) (nP : ∀ p ∈ X.pn ++ pins, p.1 ≠ a) :
    Inv X pins σ (upd H a (ExcAt a cls d)) s := by
  have other : ∀ {b : Addr} {u : HO}, H b = some u → upd H a (ExcAt a cls d) b = some u := fun {b u} q => by
    rw [upd_ne (fun y => by rw [y, na] at q; cases q)]
    exact q
  refine ⟨I.ok, I.os, I.bare, ⟨I.base.keep, I.base.slot, fun b o q n x => ?_, I.base.there, fun b xs q => other (I.base.tups b xs q), fun b o u q => other (I.base.frzs b o u q), fun b ps q => ?_⟩, I.loc, I.cell, ?_, fun y cc q => ?_, fun p hp => ?_, fun b o q => ?_, I.len⟩
  · rw [upd_ne (fun y => by rw [y, new] at q; cases q)]
    exact I.base.free b o q n x
  · obtain ⟨more, q2⟩ := I.base.tbls b ps q
    exact ⟨more, other q2⟩
  · rw [upd_ne (Ne.symm nL)]
    exact I.free
  · rw [upd_ne (fun y2 => ?_)]
    · exact I.freeC y cc q
    · obtain ⟨v, o, e2, d2⟩ := I.cell y cc q
      rw [y2, e] at e2
      cases e2
      rw [f] at d2
      cases d2
  · obtain ⟨p1, p2, p3⟩ := I.pin p hp
    exact ⟨p1, by rw [upd_ne (nP p hp)]; exact p2, p3⟩
  · by_cases ba : b = a
    · subst ba
      rw [upd_same] at q
      cases q
      exact excAt_ok e z f
    · rw [upd_ne ba] at q
      exact (I.hok b o q).stay (fun _ _ _ g => g) (fun _ g => other g) fun _ _ g => other g
/-- what the clause wishes: the class is one that it catches, and its suite goes on with the exception told -/
def wTrk (K : PySem.W.Frag) (c : Value) (i : Nat) (ts : TS) (D : Ends) : WX := fun cls d σ H =>
  PySem.W.exmOne K cls c = some true ∧ ∀ a, H a = none → ts ⟨fun σ' H' => D.nx (σ'.set i none) H', fun _ _ => False, fun _ _ => False, fun _ _ => False⟩ (σ.set i (some (.ref a))) (upd H a (ExcAt a cls d))
theorem in_suite (I : Inv X pins σ H s) (a : Addr) : Inv (X.suite a (X.pn ++ pins)) [] σ H s := ⟨I.ok.suite _ _, I.os, I.bare, I.base, I.loc, I.cell, I.free, I.freeC, fun p hp => I.pin p ((List.append_nil (X.pn ++ pins)) ▸ hp), I.hok, I.len⟩
theorem out_suite {a : Addr} (I : Inv (X.suite a (X.pn ++ pins)) [] σ H s) (ok : X.Ok) : Inv X pins σ H s := ⟨ok, I.os, I.bare, I.base, I.loc, I.cell, I.free, I.freeC, fun p hp => I.pin p (List.mem_append_left _ hp), I.hok, I.len⟩
end
section
variable {X : Cx} {x n : Str} {c : Value} {i : Nat} {body suite : List Stmt} {b0 : Stmt} {np p1 p2 : Pos} {tb : WX → TS} {ts : TS}
theorem ps_try_trk (st : X.stack = X.env :: X.outer) (fr : X.env.frame = some X.env.locals) (hex : X.ex = []) (nd : X.N.Nodup) (at_ : X.N[i]? = some n) (kd : X.env.kindOf n = some .local) (nm : Names X x c)
    (hb : ∀ (W : WX) (pn : List (Addr × Obj)) (xe : Value → Shared → Prop), Takes (X.tr pn xe) W → PassesOwn (model X.prog X.w) X.A X.env xe → PSs (X.tr pn xe) body (tb W)) (hsu : ∀ a pn, PSs (X.suite a pn) (b0 :: suite) ts) :
    PS X (.Try body [.ExceptHandler (some (.Name x np)) (some n) (b0 :: suite) p2] [] [] p1) (fun D σ H => tb (wTrk X.K c i ts D) D σ H) := by
  refine ⟨fun pins s σ H D I rd => wpAny_Try_except ?_⟩
  have around : X.A.frames = some (X.env :: X.outer) := I.ok.frames.trans (congrArg some st)
  refine wpAny_mono ((hb (wTrk X.K c i ts D) (X.pn ++ pins) _ (fun u s1 air => ?_) PassesOwn.looking).run [] s σ H D (I.toTry _) rd) (fun fl s1 fin => ?_) (fun _ _ q => q)
  · obtain ⟨a, B, sI, pins1, σ1, H1, cls, d, rfl, J1, ground, slots, sky, na, os, gens, hit, wish⟩ := air
    have J : Inv X pins σ1 H1 sI := J1.ofTry I.ok
    refine Sky.land Zc.steady around fr (show Sky B (X.env :: X.outer) a (Zc cls d) X.env.locals s1.heap from st ▸ sky) fun h2 fly2 slots2 => ?_
    have J2 : Inv X pins σ1 H1 { s1 with heap := h2 } := J.landed ground fly2.1 (slots.trans slots2) os gens
    obtain ⟨ob2, fv2, got2, z2, f2⟩ := fly2.there
    have noFrame : a ∉ frs X.stack := fun m => by
      rw [st] at m
      obtain ⟨_, o', g', no⟩ := fly2.2.2.1.mem m
      rw [got2] at g'
      cases g'
      exact no _ f2
    have newI : sI.heap.get? a = none := by
      cases g : sI.heap.get? a with
      | none => rfl
      | some o =>
        have q := ground a o g noFrame
        rw [fly2.2.1] at q
        cases q
    have new0 : X.s_0.heap.get? a = none := by
      cases g : X.s_0.heap.get? a with
      | none => rfl
      | some o =>
        by_cases ex : a ∈ X.ex
        · rw [hex] at ex
          cases ex
        · obtain ⟨o', q⟩ := J.base.there a o g ex
          rw [newI] at q
          cases q
    have notL : a ≠ X.env.locals := fun q => noFrame (by
      rw [st]
      exact List.mem_filterMap.mpr ⟨X.env, List.mem_cons_self .., by rw [fr, q]⟩)
    have notP : ∀ p ∈ X.pn ++ pins, p.1 ≠ a := fun p hp q => by
      have g := (J.pin p hp).1
      rw [q, newI] at g
      cases g
    refine wpAny_handleBy_cons (codeAny_handlers_test ?_) (fun q => nomatch q)
    have typ : PySem.W.Looks (model X.prog X.w) h2 (typeOf (.ref a)) cls := fun A Q E s' k q => wpAny_typeOf_ref (k _ _ got2) (by rw [z2.1]; exact q)
    have yes := PySem.W.exm_one (M := model X.prog X.w) J2.kIn typ hit
    have named : ∀ {Q : Value → Shared → Prop} {E : Value → Shared → Prop}, Q c { s1 with heap := h2 } → wpAny (model X.prog X.w) (X.A.mark (some (.ref a))) (eval (.Name x np) X.env) Q E { s1 with heap := h2 } := fun {Q E} q => by
      obtain ⟨g, nodbg, m | ⟨m, bt, nn⟩⟩ := nm
      · exact ld_glob (in_suite J2 a) g m q nodbg
      · exact ld_blt (in_suite J2 a) g m bt q nn nodbg
    refine named (yes.here (codeAny_handlers_suite_as (HandSPX.lands_againZ fly2 fun h3 fly3 slots3 => ?_)))
    have J3 : Inv X pins σ1 H1 { s1 with heap := h3 } := J.landed ground fly3.1 ((slots.trans slots2).trans slots3) os gens
    obtain ⟨ob3, fv3, got3, z3, f3⟩ := fly3.there
    have T3 := in_suite (track J3 got3 z3 f3 na new0 notL notP) a
    refine store_ok (X := X.suite a (X.pn ++ pins)) (v := .ref a) T3 nd at_ (.inl kd) rfl (fun s4 T4 => ?_) (.inr kd)
    refine wpAny_mono ((hsu a (X.pn ++ pins)).run [] s4 _ _ _ T4 (wish a na)) (fun fl s5 fin => ?_) (fun _ _ q => q.elim)
    cases fl with
    | next =>
      obtain ⟨σ5, H5, T5, q5⟩ := fin
      exact gone_ok (out_suite T5 I.ok) nd at_ kd fun s6 J6 => ⟨_, _, J6, q5⟩
    | brk => exact fin.elim fun _ ⟨_, _, q⟩ => q.elim
    | cont => exact fin.elim fun _ ⟨_, _, q⟩ => q.elim
    | ret u => exact fin.elim fun _ ⟨_, _, _, _, q⟩ => q.elim
  · cases fl with
    | next =>
      obtain ⟨σ2, H2, J2, q⟩ := fin
      exact wpAny_execs_nil ⟨σ2, H2, J2.ofTry I.ok, q⟩
    | brk =>
      obtain ⟨σ2, H2, J2, q⟩ := fin
      exact ⟨σ2, H2, J2.ofTry I.ok, q⟩
    | cont =>
      obtain ⟨σ2, H2, J2, q⟩ := fin
      exact ⟨σ2, H2, J2.ofTry I.ok, q⟩
    | ret u =>
      obtain ⟨v, σ2, H2, J2, r, q⟩ := fin
      exact ⟨v, σ2, H2, J2.ofTry I.ok, r, q⟩
end
end Dw
end
section
/-! isinstance of a kept exception; defs that raise, called in a try -/
namespace Dw
open PySem PySem.Spec PyProof.Rows L2 Evl
/-- a def that keeps a promise and may raise -/
structure ClX (P : Program) (w : World) (K : PySem.W.Frag) (mg : Str → Option Value) (base : Heap) (k : Nat) (x : Str) (sp : Sp) : Prop where
  ex : ∃ (f : Addr) (fd : FuncData) (ps : List Str), FnOk P w K mg base (L2.CX P w) k f fd ps sp ∧ mg x = some (.ref f) ∧ PySem.W.keepIn K (.ref f) = true ∧ Binds K fd ps []
theorem clx_of {P : Program} {w : World} {K : PySem.W.Frag} {mg : Str → Option Value} {base : Heap} {x : Str} {st : Stmt} {N ps : List Str} {k : Nat} {sp : Sp} (D : Df K mg x st ps) (S : FnScope N ps (defScope st)) (len : ∀ vs H Q E, sp vs H Q E → vs.length = ps.length)
    (body : ∀ (f : Addr) (cdv : Value) (A : Around) (outer : List Env) (s : Shared) (H : Hp) (vs : List V) (Q : VK) (E : XK), Room k (A.deeper (envOfC x (defScope st) s.heap.objs.size f cdv)) → sp vs H Q E →
      ∃ t, PSs (cxOf (L2.CX P w) P w K mg base N x (defScope st) f cdv A outer s H E) (defBody st) t ∧ t { nx := fun _ H' => Q .non H', rt := Q } (start N vs) H) : ClX P w K mg base (k + 1) x sp := by
  obtain ⟨f, fd, F, m, b⟩ := D.ex
  exact ⟨f, fd, ps, F.okX S len (fun cdv A outer s H vs Q E hr h => body f cdv A outer s H vs Q E hr h), m, F.kp, b⟩
/-- its call where the wish of what is raised is W -/
theorem pe_clX {X : Cx} {k j : Nat} {x : Str} {sp : Sp} {p pos : Pos} {e : Expr} {es : List Expr} {t : TA} {W : WX} (c : ClX X.prog X.w X.K X.mg X.base k x sp) (tk : Takes X W) (hr : Room j X.A) (hk : k ≤ j) (hg : Gl X x) (ha : PA X (e :: es) t)
    (dbg : (x == ("__debug__" : Str)) = false := by decide) (str : starEach (e :: es) X.env = (false, eval e X.env) :: starEach es X.env := by rfl) (bck : (backTo pos (starEach es X.env)).any (·.1) = false := by rfl) :
    PE X (.Call (.Name x p) (e :: es) [] pos) (tCallS sp (fun σ => WE W σ) t) := by
  obtain ⟨f, fd, ps, F, m, kp, b⟩ := c.ex
  exact pe_callS F (hr.mono hk) hg m kp b (fun σ => passAt tk σ) ha dbg str bck
/-- a promise to raise an error of the class C, all that stood left as it was -/
def spE {α : Type} (C : Addr) (pre : α → List V → Hp → Prop) : Sp := fun vs H _ E => ∃ a, pre a vs H ∧ ∀ H', Ex H H' → E (.ref C) none H'
/-- what the top says of an error's class -/
structure ExcT (K : PySem.W.Frag) (mg : Str → Option Value) (x : Str) (C : Addr) : Prop where
  g : mg x = some (.ref C)
  k : PySem.W.keepIn K (.ref C) = true
  q : PySem.W.excIn K C [.type "ValueError", .type "Exception", .type "BaseException", .type "object"] "ValueError.__new__" = true
  t : PySem.W.typeIn K (.ref C) = some (.type "type")
  c : ExcC K C
end Dw
end
section
/-! repr of a written list with dicts of data among its items -/
namespace Dw
open PySem PySem.Spec PyProof.Rows L2 Evl
/-! data of texts, numbers and tuples alone: no place is told of it -/
mutual
def noL : PyData → Bool
  | .none | .bool _ | .int _ | .str _ => true
  | .tuple xs => noLs xs
  | .list _ | .dict _ => false
def noLs : List PyData → Bool
  | [] => true
  | x :: xs => noL x && noLs xs
end
section
variable {X : Cx} {pins : List (Addr × Obj)} {σ : L2.St} {H : Hp} {s : Shared}
end
/-! sizes -/
structure Gs (k W : Nat) (d : PyData) : Prop where
  dep : d.depth ≤ k
  wgt : d.weight ≤ W
  its : d.leavesShort 13 = true
  sho : d.showable = true
theorem Gd.gs {k W : Nat} {d : PyData} (h : Gd k W d) : Gs k W d := ⟨h.dep, h.wgt, PyData.leavesShort_of_canLay0 13 d h.lay h.its, h.sho⟩
theorem Gs.mono {k W k' W' : Nat} {d : PyData} (h : Gs k W d) (a : k ≤ k') (b : W ≤ W') : Gs k' W' d := ⟨Nat.le_trans h.dep a, Nat.le_trans h.wgt b, h.its, h.sho⟩
theorem Gs.len {k W : Nat} {d : PyData} (h : Gs k W d) (b : W ≤ 1000000) : d.shown.length ≤ sizeLine := by
  have z := PyData.shown_le 13 (by decide) d h.its
  have y := h.wgt
  rw [sizeLine_eq]
  omega
end Dw
end
section
/-! == and != of deep data; isinstance of what was caught or of None, one class or a written tuple of them -/
namespace Dw
open PySem PySem.Spec PyProof.Rows L2 Evl
def Lay (d : PyData) : Prop := d.canLay0 = true ∧ d.depth ≤ 190
def rNeL (K : PySem.W.Frag) : R2 := fun x y H Q => ∃ d e, Dp K H x d ∧ Dp K H y e ∧ Lay d ∧ Lay e ∧ Q (.bl (!PyData.eqv d e)) H
theorem op_neL {X : Cx} {k : Nat} (hr : Room k X.A) : OpR X (compareOp .NotEq) (rNeL X.K) := by
  intro pins s σ H x y v u Q I rx ry h
  obtain ⟨d, e, hd, he, ⟨sd, dd⟩, ⟨se, _⟩, q⟩ := h
  obtain ⟨as, r1⟩ := Dp.reads I d x v hd rx
  obtain ⟨bs, r2⟩ := Dp.reads I e y u he ry
  refine SeqAt.compareNe_reads r1 r2 sd se ?_ ⟨.bl _, H, I, rfl, q⟩
  have un := hr.un
  have : min d.depth e.depth ≤ d.depth := Nat.min_le_left _ _
  omega
/-- None, or a kept exception: its type -/
def TyC (K : PySem.W.Frag) (H : Hp) (x : V) (t : Value) : Prop := (x = .non ∧ t = .type "NoneType") ∨ ∃ (a C : Addr), x = .ref a ∧ H a = some (ExcAt a (.ref C) none) ∧ ExcC K C ∧ t = .ref C
theorem TyC.ex {K : PySem.W.Frag} {H H' : Hp} {x : V} {t : Value} (e : Ex H H') (h : TyC K H x t) : TyC K H' x t := h.imp id fun ⟨a, C, h1, h2, h3, h4⟩ => ⟨a, C, h1, e _ _ h2, h3, h4⟩
theorem tyc_kit {X : Cx} {pins : List (Addr × Obj)} {σ : L2.St} {H : Hp} {s : Shared} {x : V} {t v : Value} (I : Inv X pins σ H s) (h : TyC X.K H x t) (r : RelV x v) : ∃ Pr, PySem.W.KitX X.K v t Pr ∧ Pr s.heap ∧ v ≠ .builtin "__main__.__loader__#opaque" := by
  rcases h with ⟨rfl, rfl⟩ | ⟨a, C, rfl, ha, xc, rfl⟩
  · obtain ⟨P, Z, p, hx⟩ := kit_of I r (tyx_non (K := X.K) (H := H))
    exact ⟨P, Z, p, hx⟩
  · cases (show v = Value.ref a from r)
    obtain ⟨⟨ob, fv, got, ⟨hc, hd⟩, hf⟩, _⟩ := (show ObjOk X.prog X.w H s.heap a (ExcAt a (.ref C) none) from I.hok a _ ha)
    have inst : PySem.W.InstAt s.heap a ob C none := by
      obtain ⟨c1, d1, t1, l1⟩ := ob
      cases (show c1 = Value.ref C from hc)
      cases (show d1 = none from hd)
      cases (show t1 = .fields fv from hf)
      exact ⟨got, rfl, rfl, trivial⟩
    exact ⟨_, PySem.W.handS_kitx_exc xc.hg xc.hk xc.hs xc.hd xc.ha xc.hn xc.ht xc.hm, inst, fun z => nomatch z⟩
def rIsC (K : PySem.W.Frag) : List V → Hp → VK → Prop := fun xs H Q => ∃ (x c : V) (t u : Value) (b : Bool), xs = [x, c] ∧ ClsV c u ∧ TyC K H x t ∧ PySem.W.kitOne K t u = some b ∧ Q (.bl b) H
theorem call_isC {X : Cx} : CallR X (.builtin "isinstance") (rIsC X.K) := by
  intro pins s σ H xs us Q I r h
  obtain ⟨x, c, t, u, b, rfl, k, ty, e, q⟩ := h
  obtain ⟨u1, u2, rfl, r1, r2⟩ := vals2 r
  have e2 := k.eq r2
  subst e2
  obtain ⟨P, Z, p, hx⟩ := tyc_kit I ty r1
  exact PySem.W.kia_one Z I.kIn p e hx fun tk => ⟨.bl b, H, I.tok tk, rfl, q⟩
def rIsCT (K : PySem.W.Frag) : List V → Hp → VK → Prop := fun xs H Q => ∃ (x : V) (tp : Addr) (cs : List V) (t : Value) (us : List Value) (b : Bool), xs = [x, .ref tp] ∧ H tp = some (.tup cs) ∧ Paired ClsV cs us ∧ TyC K H x t ∧ PySem.W.kitAny K t us = some b ∧ Q (.bl b) H
theorem call_isCT {X : Cx} : CallR X (.builtin "isinstance") (rIsCT X.K) := by
  intro pins s σ H xs us Q I r h
  obtain ⟨x, tp, cs, t, ws, b, rfl, hT, k, ty, e, q⟩ := h
  obtain ⟨u1, u2, rfl, r1, r2⟩ := vals2 r
  cases (show u2 = Value.ref tp from r2)
  obtain ⟨P, Z, p, hx⟩ := tyc_kit I ty r1
  obtain ⟨_, its, rv, o, h1, h2, n, h3⟩ := (show ObjOk X.prog X.w H s.heap tp (.tup cs) from I.hok tp _ hT)
  have e3 := ClsV.all k rv
  subst e3
  obtain ⟨oc, od, dt, sl⟩ := o
  simp only at h2 h3
  subst h2 h3
  exact PySem.W.kia_tup Z I.kIn p h1 e hx fun tk => ⟨.bl b, H, I.tok tk, rfl, q⟩
theorem ev_isC {K : PySem.W.Frag} {σ : L2.St} {H : Hp} {ta tb : TE} {x c : V} {t u : Value} {b : Bool} (ha : Ev ta σ H x) (hc : Ev tb σ H c) (k : ClsV c u) (ty : TyC K H x t) (e : PySem.W.kitOne K t u = some b) : Ev (tCB (rIsC K) (tCons ta (tCons tb tNil))) σ H (.bl b) :=
  fun H1 e1 Q q => ha H1 e1 _ fun H2 e2 => hc H2 (e1.trans e2) _ fun H3 e3 => ⟨x, c, t, u, b, rfl, k, ty.ex ((e1.trans e2).trans e3), e, q H3 (e2.trans e3)⟩
end Dw
end
section
/-! defs that are only called where nothing is being shown, and repr in them -/
namespace Dw
open PySem PySem.Spec PyProof.Rows L2 Evl
end Dw
end
section
/-! in of a tuple of data; repr of deep data -/
namespace Dw
open PySem PySem.Spec PyProof.Rows L2 Evl
def rInTD (K : PySem.W.Frag) : R2 := fun x y H Q => ∃ d ds, Dp K H x d ∧ Dp K H y (.tuple ds) ∧ SeqAt.shaped d = true ∧ SeqAt.shaped (.tuple ds) = true ∧ Q (.bl (ds.any fun z => PyData.eqv z d)) H
theorem op_inTD {X : Cx} (hu : X.A.units + 65 < cLine) : OpR X (compareOp .In) (rInTD X.K) := by
  intro pins s σ H x y v u Q I rx ry h
  obtain ⟨d, ds, hd, he, sd, se, q⟩ := h
  obtain ⟨as, r1⟩ := Dp.reads I d x v hd rx
  obtain ⟨bs, r2⟩ := Dp.reads I (.tuple ds) y u he ry
  exact SeqAt.in_tuple_reads r2 r1 (SeqAt.canLay_of_shaped se) (SeqAt.canLay_of_shaped sd) (room_in_shaped sd hu) ⟨.bl _, H, I, rfl, q⟩
end Dw
end
section
/-! tuple * int, the int small, below 1 too -/
namespace Dw
open PySem PySem.Spec PyProof.Rows L2 Evl
theorem tuple_mul1 (l : Addr) (items : Array Value) (n : Nat) (dd : Option Addr) (sl : Array (Option Value)) (x : Int) (u : Tok) (hx : x = 1) :
    Meets (Builtin.«tuple.__mul__» ⟨[.ref l, .int x u], []⟩) (fun _ R s => s.heap.get? l = some { cls := .type "tuple", dict := dd, data := .seq items n, slots := sl } ∧ R (.ok (.ret (Value.ref l))) s) :=
  .of_wp fun prog w A R s h => by
    obtain ⟨hp, g, d, tk, os⟩ := s
    obtain ⟨hl, h⟩ := h
    have f1 := AutoSeq1.idx_int
    have c0 : (decide (x < -(2 ^ 63)) || decide (x ≥ 2 ^ 63)) = false := by
      rw [decide_eq_false (by omega), decide_eq_false (by omega)] <;> rfl
    have c1 : (items.isEmpty || x == 1) = true := by
      rw [hx]
      simp
    wp_walk using wpAny_loadPart' hl
    repeat (first
      | (refine wpAny_ite_false (decide_eq_false (by rw [c0]; exact Bool.false_ne_true)) ?_; wp_walk using wpAny_loadPart' hl)
      | (refine wpAny_ite_true (decide_eq_true (by rw [c1])) ?_; wp_walk using wpAny_loadPart' hl))
    exact ⟨_, rfl, h⟩
theorem tuple_mul0 (l : Addr) (items : Array Value) (n : Nat) (dd : Option Addr) (sl : Array (Option Value)) (x : Int) (u : Tok) (hx : x ≤ 0) (h10 : -10 ≤ x) (ne : items.isEmpty = false) :
    Meets (Builtin.«tuple.__mul__» ⟨[.ref l, .int x u], []⟩) (fun _ R s => s.heap.get? l = some { cls := .type "tuple", dict := dd, data := .seq items n, slots := sl } ∧
      R (.ok (.ret (Value.ref s.heap.objs.size))) { s with heap := s.heap.push { cls := Value.type "tuple", data := Data.seq #[] }, toks := s.toks }) :=
  .of_wp fun prog w A R s h => by
    obtain ⟨hp, g, d, tk, os⟩ := s
    obtain ⟨hl, h⟩ := h
    have f1 := AutoSeq1.idx_int
    have c0 : (decide (x < -(2 ^ 63)) || decide (x ≥ 2 ^ 63)) = false := by
      rw [decide_eq_false (by omega), decide_eq_false (by omega)] <;> rfl
    have c1 : (items.isEmpty || x == 1) = false := by
      rw [ne, Bool.false_or]
      exact beq_eq_false_iff_ne.mpr (by omega)
    have c2 : (decide (x ≤ 0) || items.isEmpty) = true := by
      rw [decide_eq_true hx]
      rfl
    wp_walk using wpAny_loadPart' hl
    repeat (first
      | (refine wpAny_ite_false (decide_eq_false (by rw [c0]; exact Bool.false_ne_true)) ?_; wp_walk using wpAny_loadPart' hl)
      | (refine wpAny_ite_false (decide_eq_false (by rw [c1]; exact Bool.false_ne_true)) ?_; wp_walk using wpAny_loadPart' hl)
      | (refine wpAny_ite_true (decide_eq_true (by rw [c2])) ?_; wp_walk using wpAny_loadPart' hl))
    exact ⟨_, rfl, h⟩
/-- tuple * int: nothing, itself, or so often -/
def rRepTA (K : PySem.W.Frag) : R2 := fun x y H Q => ∃ l k xs, x = .ref l ∧ y = .int k ∧ SqT K H l xs ∧ xs ≠ [] ∧ -10 ≤ k ∧ k ≤ 1000 ∧ xs.length ≤ 1000 ∧
  (k ≤ 0 → ∀ p, H p = none → Q (.ref p) (upd H p (.tup []))) ∧ (k = 1 → Q (.ref l) H) ∧ (2 ≤ k → ∀ p, H p = none → Q (.ref p) (upd H p (.tup (List.replicate k.toNat xs).flatten)))
theorem op_repTA {X : Cx} : OpR X (binaryOp .Mult) (rRepTA X.K) := by
  intro pins s σ H x y v u Q I rx ry h
  obtain ⟨l, k, xs, rfl, rfl, hT, hne, h0, h2, hz, q0, q1, q2⟩ := h
  by_cases k2 : 2 ≤ k
  · exact op_repT pins s σ H _ _ _ _ Q I rx ry ⟨l, k, xs, rfl, rfl, hT, hne, k2, h2, hz, q2 k2⟩
  cases rx
  obtain ⟨t, rfl⟩ := ry
  obtain ⟨its, r, ⟨⟨cls, dd, data, sl⟩, ho, hc, n, hd⟩, hs⟩ := I.tuple hT
  simp only at hc hd
  subst hc hd
  have hle : its.length = xs.length := r.length.symm
  have hn : its ≠ [] := fun e => hne (by
    rw [e] at hle
    exact List.eq_nil_of_length_eq_zero hle.symm)
  have hi : its.toArray.isEmpty = false := by
    cases its with
    | nil => exact absurd rfl hn
    | cons a b => rfl
  by_cases k1 : k = 1
  · exact wpAny_binaryOp_repeat_ref (T := "tuple") (U := "int") (by decide) ⟨_, ho, rfl⟩ (fun s' => typeIs_int s' k t) noFill_tuple_mul F.fills_int_mul F.slot_int_rmul repeat_tuple F.slot_int_index.lookup
      (call_meets F.slot_int_rmul (typeIs_int s k t) F.entry_int_rmul (F.args_int_rmul_2 _ _) (int_rmul_tuple k t l its.toArray n dd sl)
        ⟨ho, rfl, ⟨_, ho, rfl⟩, call_meets F.slot_tuple_mul ⟨_, ho, rfl⟩ F.entry_tuple_mul (F.args_tuple_mul_2 _ _) (tuple_mul1 l its.toArray n dd sl k t k1) ⟨ho, ⟨.ref l, H, I, rfl, q1 k1⟩⟩⟩)
  · have k0 : k ≤ 0 := by omega
    refine wpAny_binaryOp_repeat_ref (T := "tuple") (U := "int") (by decide) ⟨_, ho, rfl⟩ (fun s' => typeIs_int s' k t) noFill_tuple_mul F.fills_int_mul F.slot_int_rmul repeat_tuple F.slot_int_index.lookup
      (call_meets F.slot_int_rmul (typeIs_int s k t) F.entry_int_rmul (F.args_int_rmul_2 _ _) (int_rmul_tuple k t l its.toArray n dd sl)
        ⟨ho, rfl, ⟨_, ho, rfl⟩, call_meets F.slot_tuple_mul ⟨_, ho, rfl⟩ F.entry_tuple_mul (F.args_tuple_mul_2 _ _) (tuple_mul0 l its.toArray n dd sl k t k0 h0 hi) ⟨ho, ?_⟩⟩)
    refine ⟨.ref s.heap.objs.size, _, I.laid (t' := s.toks) (o := .tup []) (fun b ob q => Heap.get?_push_of_some _ q) (Nat.le_refl _) ?_, rfl, q0 k0 _ (I.hok.fresh (Nat.le_refl _))⟩
    exact ⟨Nat.zero_le _, [], .nil, IsTup.new _ _⟩
end Dw
end
section
/-! repr of any data without dicts -/
namespace Dw
open PySem PySem.Spec PyProof.Rows L2 Evl
def rReprW (X : Cx) : List V → Hp → VK → Prop := fun xs H Q => ∃ (v : V) (d : PyData), xs = [v] ∧ Dp X.K H v d ∧ X.A.guards = some [] ∧ d.showable = true ∧ d.hasDict = false ∧ d.depth ≤ 190 ∧ d.shown.length ≤ sizeLine ∧ Q (.str d.shown) H
theorem call_reprW {X : Cx} {k : Nat} (hr : Room k X.A) : CallR X (.builtin "repr") (rReprW X) := by
  intro pins s σ H xs us Q I r h
  obtain ⟨v, d, e, hd, hg, hs, hn, hz, hl, q⟩ := h
  subst e
  obtain ⟨u, rfl, ru⟩ := vals1 r
  have un := hr.un
  have isRef : ∀ a, v = .ref a → wpAny (model X.prog X.w) X.A (call (.builtin "repr") [u]) (fun w' s' => ∃ z H', Inv X pins σ H' s' ∧ RelV z w' ∧ Q z H') X.xe s := fun a e => by
    subst e
    obtain ⟨as, rd⟩ := Dp.reads I d _ _ hd ru
    cases (show u = Value.ref a from ru)
    exact repr_of_reads' rd hs (PyData.noDict_hsm hn) hg (by omega) (fun _ _ z => z) (fun h' t tk keep => ⟨.str d.shown, H, I.kept keep, ⟨t, rfl⟩, q⟩) hl
  cases hd with
  | non =>
    cases (show u = Value.none from ru)
    exact PySem.P.repr_of_none ⟨.str _, H, I.tok _, ⟨_, rfl⟩, q⟩
  | bl b =>
    cases (show u = Value.bool b from ru)
    exact PySem.P.repr_of_bool ⟨.str _, H, I.tok _, ⟨_, rfl⟩, q⟩
  | int i =>
    obtain ⟨t, e⟩ := (show ∃ t, u = Value.int i t from ru)
    subst e
    exact PySem.P.repr_of_int (by rw [PyData.showable] at hs; exact of_decide_eq_true hs) ⟨.str _, H, I.tok _, ⟨_, rfl⟩, q⟩
  | str x =>
    obtain ⟨t, e⟩ := (show ∃ t, u = Value.str x t from ru)
    subst e
    exact PySem.P.repr_of_str ⟨.str _, H, I.tok _, ⟨_, rfl⟩, q⟩ hl
  | lst _ _ => exact isRef _ rfl
  | tup _ _ => exact isRef _ rfl
end Dw
end
section
/-! the mathematics of renaming, over plain lists of natural numbers -/
namespace M20
/-- the k-th, 0 where there is none -/
abbrev g (l : List Nat) (k : Nat) : Nat := l.getD k 0
theorem g_eq {l : List Nat} {k : Nat} (h : k < l.length) : l[k]? = some (g l k) := by
  show l[k]? = some (l.getD k 0)
  rw [List.getD_eq_getElem?_getD, List.getElem?_eq_getElem h]
  rfl
theorem ext {l m : List Nat} (h : l.length = m.length) (e : ∀ k, k < l.length → g l k = g m k) : l = m := by
  apply List.ext_getElem? 
  intro k
  by_cases hk : k < l.length
  · rw [g_eq hk, g_eq (h ▸ hk), e k hk]
  · rw [List.getElem?_eq_none_iff.mpr (by omega), List.getElem?_eq_none_iff.mpr (by omega)]
/-- what is called k -/
def bk (o : List Nat) : List Nat := (List.range o.length).map fun k => o.idxOf k
/-! a table of a deed of p places over n numbers -/
structure Tab (n p : Nat) (t : List Nat) : Prop where
  len : t.length = n ^ p
  low : ∀ k, k < n ^ p → g t k < n
/-! the law's own way: each number of the table put at its place -/
def spot (n p : Nat) (o : List Nat) (k : Nat) : Nat := g o (k % n) * (if 0 < p then 1 else 0) + g o (k / n % n) * n * (if p = 2 then 1 else 0)
/-- the first k numbers put -/
def led (n p : Nat) (o t : List Nat) : Nat → List Nat
  | 0 => t
  | k + 1 => (led n p o t k).set (spot n p o k) (g o (g t k))
end M20
end
section
namespace K02
open PySem PySem.Spec PyProof.Rows L2 Evl Dw M20
open C8 (fnScope_by)
/-! ### the text -/
def topS (i : Nat) : Stmt := PySem.Challenge.pw_deedworlds_k02_terms_looked_at.main.body.getD i (.Pass ⟨0, 0, 0, 0⟩)
abbrev s_is_whole : Stmt := topS 1
theorem sc_is_whole : FnScope ["thing"] ["thing"] (defScope s_is_whole) := fnScope_by (by decide +kernel)
abbrev s_is_below : Stmt := topS 2
theorem sc_is_below : FnScope ["thing", "size"] ["thing", "size"] (defScope s_is_below) := fnScope_by (by decide +kernel)
abbrev s_is_name : Stmt := topS 30
theorem sc_is_name : FnScope ["thing", "sign"] ["thing"] (defScope s_is_name) := fnScope_by (by decide +kernel)
abbrev s_is_deed : Stmt := topS 31
theorem sc_is_deed : FnScope ["thing"] ["thing"] (defScope s_is_deed) := fnScope_by (by decide +kernel)
abbrev s_signature_wrong : Stmt := topS 32
theorem sc_signature_wrong : FnScope ["thing", "k", "deed", "names", "name"] ["thing"] (defScope s_signature_wrong) := fnScope_by (by decide +kernel)
abbrev s_need_signature : Stmt := topS 33
theorem sc_need_signature : FnScope ["signature"] ["signature"] (defScope s_need_signature) := fnScope_by (by decide +kernel)
abbrev s_has_term_form : Stmt := topS 34
theorem sc_has_term_form : FnScope ["places", "thing", "name", "terms"] ["places", "thing"] (defScope s_has_term_form) := fnScope_by (by decide +kernel)
abbrev s_wrong_in_term : Stmt := topS 35
theorem sc_wrong_in_term : FnScope ["places", "thing", "many", "todo", "path", "part", "k"] ["places", "thing"] (defScope s_wrong_in_term) := fnScope_by (by decide +kernel)
abbrev s_term_wrong : Stmt := topS 36
theorem sc_term_wrong : FnScope ["signature", "thing"] ["signature", "thing"] (defScope s_term_wrong) := fnScope_by (by decide +kernel)
abbrev s_need_term : Stmt := topS 37
theorem sc_need_term : FnScope ["signature", "term"] ["signature", "term"] (defScope s_need_term) := fnScope_by (by decide +kernel)
abbrev s_variables_in : Stmt := topS 38
theorem sc_variables_in : FnScope ["signature", "term"] ["signature", "term"] (defScope s_variables_in) := fnScope_by (by decide +kernel)
abbrev s_paths_in : Stmt := topS 39
theorem sc_paths_in : FnScope ["signature", "term"] ["signature", "term"] (defScope s_paths_in) := fnScope_by (by decide +kernel)
abbrev s_put_in : Stmt := topS 41
theorem sc_put_in : FnScope ["signature", "term", "putting"] ["signature", "term", "putting"] (defScope s_put_in) := fnScope_by (by decide +kernel)
abbrev s_lettered : Stmt := topS 43
theorem sc_lettered : FnScope ["signature", "term"] ["signature", "term"] (defScope s_lettered) := fnScope_by (by decide +kernel)
abbrev s_term_text : Stmt := topS 45
theorem sc_term_text : FnScope ["signature", "term"] ["signature", "term"] (defScope s_term_text) := fnScope_by (by decide +kernel)
abbrev s_purse : Stmt := topS 47
theorem sc_purse : FnScope ["_law_script", "_law_cells", "_law_cell"] ["_law_script"] (defScope s_purse) := fnScope_by (by decide +kernel)
abbrev s_draw : Stmt := topS 48
theorem sc_draw : FnScope ["_law_purse_here", "_law_out_of", "_law_cells", "_law_went", "_law_where", "_law_cell", "_law_number", "_law_other"] ["_law_purse_here", "_law_out_of"] (defScope s_draw) := fnScope_by (by decide +kernel)
abbrev s_pick : Stmt := topS 49
theorem sc_pick : FnScope ["_law_purse_here", "_law_some"] ["_law_purse_here", "_law_some"] (defScope s_pick) := fnScope_by (by decide +kernel)
abbrev s_dds : Stmt := topS 50
theorem sc_dds : FnScope ["_law_purse_here", "_law_found", "_law_k", "_law_size", "_law_name", "_law_sign", "_law_other", "_law_places"] ["_law_purse_here"] (defScope s_dds) := fnScope_by (by decide +kernel)
abbrev s_grn : Stmt := topS 51
theorem sc_grn : FnScope ["_law_purse_here", "_law_deeds_here", "_law_chosen", "_law_deep", "_law_bare", "_law_name", "_law_places", "_law_x", "_law_k"] ["_law_purse_here", "_law_deeds_here", "_law_chosen", "_law_deep"] (defScope s_grn) := fnScope_by (by decide +kernel)
abbrev s_ltr : Stmt := topS 52
theorem sc_ltr : FnScope ["_law_purse_here", "_law_most", "_law_found", "_law_x"] ["_law_purse_here", "_law_most"] (defScope s_ltr) := fnScope_by (by decide +kernel)
abbrev s__law_sized : Stmt := topS 53
theorem sc__law_sized : FnScope ["_law_many", "_law_name", "_law_one", "_law_k"] ["_law_many", "_law_name"] (defScope s__law_sized) := fnScope_by (by decide +kernel)
abbrev s__law_combed : Stmt := topS 54
theorem sc__law_combed : FnScope ["_law_many", "_law_name", "_law_one", "_law_k"] ["_law_many", "_law_name"] (defScope s__law_combed) := fnScope_by (by decide +kernel)
abbrev s__law_fits : Stmt := topS 55
theorem sc__law_fits : FnScope ["_law_deeds_here", "_law_piece"] ["_law_deeds_here", "_law_piece"] (defScope s__law_fits) := fnScope_by (by decide +kernel)
abbrev s__law_met : Stmt := topS 56
theorem sc__law_met : FnScope ["_law_deeds_here", "_law_piece", "_law_path", "_law_found", "_law_k", "_law_bit"] ["_law_deeds_here", "_law_piece", "_law_path"] (defScope s__law_met) := fnScope_by (by decide +kernel)
abbrev s__law_due : Stmt := topS 57
theorem sc__law_due : FnScope ["_law_deeds_here", "_law_piece", "_law_met_here", "_law_odd", "_law_path", "_law_bit"] ["_law_deeds_here", "_law_piece"] (defScope s__law_due) := fnScope_by (by decide +kernel)
abbrev s__law_laid : Stmt := topS 58
theorem sc__law_laid : FnScope ["_law_piece", "_law_path", "_law_bit", "_law_inner", "_law_k"] ["_law_piece", "_law_path", "_law_bit"] (defScope s__law_laid) := fnScope_by (by decide +kernel)
abbrev s__law_bent : Stmt := topS 59
theorem sc__law_bent : FnScope ["_law_purse_here", "_law_deeds_here", "_law_piece", "_law_met_here", "_law_path", "_law_bit", "_law_name", "_law_places", "_law_leaf", "_law_some"] ["_law_purse_here", "_law_deeds_here", "_law_piece"] (defScope s__law_bent) := fnScope_by (by decide +kernel)
abbrev s__law_refused : Stmt := topS 60
theorem sc__law_refused : FnScope ["_law_which", "_law_deeds_here", "_law_piece", "_law_caught", "e"] ["_law_which", "_law_deeds_here", "_law_piece"] (defScope s__law_refused) := fnScope_by (by decide +kernel)
abbrev s_law : Stmt := topS 61
theorem sc_law : FnScope ["_law_script", "_law_purse_here", "_law_turn", "_law_deeds_here", "_law_piece", "_law_many", "_law_name", "_law_places", "_law_again", "_law_kept", "_law_due_here", "_law_which"] ["_law_script"] (defScope s_law) := fnScope_by (by decide +kernel)
/-- what the module's names hold -/
structure Txt (mg : Str → Option Value) : Prop where
  z_ValueError : mg "ValueError" = none
  z_all : mg "all" = none
  z_bool : mg "bool" = none
  z_dict : mg "dict" = none
  z_enumerate : mg "enumerate" = none
  z_int : mg "int" = none
  z_isinstance : mg "isinstance" = none
  z_len : mg "len" = none
  z_range : mg "range" = none
  z_repr : mg "repr" = none
  z_reversed : mg "reversed" = none
  z_set : mg "set" = none
  z_sorted : mg "sorted" = none
  z_str : mg "str" = none
  z_super : mg "super" = none
  z_tuple : mg "tuple" = none
  z_zip : mg "zip" = none
  c_NAME_LETTERS : ∃ t, mg "NAME_LETTERS" = some (.str "abcdefghijklmnopqrst" t)
  c_MOST_NAME : ∃ t, mg "MOST_NAME" = some (.int 4 t)
  c_MOST_DEEDS : ∃ t, mg "MOST_DEEDS" = some (.int 4 t)
  c_MOST_PLACES : ∃ t, mg "MOST_PLACES" = some (.int 2 t)
  c_MOST_PARTS : ∃ t, mg "MOST_PARTS" = some (.int 60 t)
section
variable {X : Cx} {x : Str} {pos : Pos}
theorem pe_gi {i : Int} (hg : Gl X x) (h : ∃ t, X.mg x = some (.int i t)) (hn : x ≠ "__name__" := by decide) (hd : (x == ("__debug__" : Str)) = false := by decide) : PE X (.Name x pos) (tC (.int i)) := by
  obtain ⟨t, e⟩ := h
  exact pe_glob hg e ⟨t, rfl⟩ (hd := hd)
theorem pe_gs {z : Str} (hg : Gl X x) (h : ∃ t, X.mg x = some (.str z t)) (hn : x ≠ "__name__" := by decide) (hd : (x == ("__debug__" : Str)) = false := by decide) : PE X (.Name x pos) (tC (.str z)) := by
  obtain ⟨t, e⟩ := h
  exact pe_glob hg e ⟨t, rfl⟩ (hd := hd)
theorem pe_ty (n : String) (hg : Gl X x) (hm : X.mg x = none) (hv : bootBuiltins x = some (.type n)) (hn : x ≠ "__name__" := by decide) (hd : (x == ("__debug__" : Str)) = false := by decide) : PE X (.Name x pos) (tC (.ty n)) := pe_bltn hg hm hv rfl (hn := hn) (hd := hd)
end
section
variable {P : Program} {w : World} {K : PySem.W.Frag} {mg : Str → Option Value} {base : Heap}
/-! ### is_whole, is_below, power -/
def sp_is_whole : Sp := spX (fun (i : Int) vs _ => vs = [.int i]) (fun _ v _ => v = .bl true)
theorem c_is_whole (T : Txt mg) (D : Df K mg "is_whole" s_is_whole ["thing"]) : Cl P w K mg base 1 "is_whole" sp_is_whole := by
  refine cl_of (k := 0) D sc_is_whole (fun vs H Q E h => ?_) (fun f cdv A outer s H vs Q E hr h => ?_)
  · obtain ⟨i, rfl, _⟩ := h
    rfl
  · obtain ⟨i, rfl, q⟩ := h
    refine ⟨_, (pss_one (ps_ret (pe_and (pe_callB call_isi (by rfl) T.z_isinstance (by decide +kernel) (pa_cons (pv 0) (pa_cons (pe_ty "int" (by rfl) T.z_int (by decide +kernel)) pa_nil))) (pe_one (pe_not (pe_callB call_isi (by rfl) T.z_isinstance (by decide +kernel) (pa_cons (pv 0) (pa_cons (pe_ty "bool" (by rfl) T.z_bool (by decide +kernel)) pa_nil)))))))), ?_⟩
    exact s_ret (ev_andV (ev_isi (ev_var rfl) ev_c (.ty _) (fun _ _ => tyx_int i) kit_ii) (fun _ => ev_notV (ev_isi (ev_var rfl) ev_c (.ty _) (fun _ _ => tyx_int i) kit_ib))) fun H1 e => q _ H1 e rfl
def sp_is_below : Sp := spX (fun (p : Int × Int) vs _ => vs = [.int p.1, .int p.2] ∧ 0 ≤ p.1 ∧ p.1 < p.2) (fun _ v _ => v = .bl true)
theorem c_is_below (T : Txt mg) (D : Df K mg "is_below" s_is_below ["thing", "size"]) (c_is_whole : Cl P w K mg base 1 "is_whole" sp_is_whole) : Cl P w K mg base 2 "is_below" sp_is_below := by
  refine cl_of (k := 1) D sc_is_below (fun vs H Q E h => ?_) (fun f cdv A outer s H vs Q E hr h => ?_)
  · obtain ⟨p, ⟨rfl, _⟩, _⟩ := h
    rfl
  · obtain ⟨⟨i, n⟩, ⟨rfl, h0, h1⟩, q⟩ := h
    refine ⟨_, (pss_one (ps_ret (pe_and (pe_cl c_is_whole hr (by first | decide | omega) (by rfl) (pa_cons (pv 0) pa_nil)) (pe_one (pe_chain op_le op_lt pe_int (pv 0) (pv 1)))))), ?_⟩
    refine s_ret (ev_andV (ev_callV (v := .bl true) i (ea_cons (ev_var rfl) ea_nil) (fun _ _ => rfl) (fun _ _ p => p)) (fun _ => ev_chain ev_c (ev_var rfl) (fun _ => ev_var rfl) rv_I0 (fun _ => rv_I0))) fun H1 e => q _ H1 e ?_
    show V.bl (true && (decide (0 ≤ i) && decide (i < n))) = _
    rw [decide_eq_true h0, decide_eq_true h1]
    rfl
end
end K02
end
section
namespace K02
open PySem PySem.Spec PyProof.Rows L2 Evl Dw M20
section
variable {P : Program} {w : World} {K : PySem.W.Frag} {mg : Str → Option Value} {base : Heap}
theorem ix_tupK {X : Cx} (K : PySem.W.Frag) (h : X.K = K := by rfl) : IxR X (rIxT K) := by
  subst h
  exact ix_tup
/-! ### names, deeds, signatures -/
def letters : Str := "abcdefghijklmnopqrst"
structure Name (z : Str) : Prop where
  l1 : 1 ≤ z.length
  l4 : z.length ≤ 4
  abc : ∀ c ∈ z.cps.toList, c ∈ letters.cps.toList
def sp_is_name : Sp := spX (fun (z : Str) vs _ => vs = [.str z] ∧ Name z) (fun _ v _ => v = .bl true)
theorem c_is_name (T : Txt mg) (D : Df K mg "is_name" s_is_name ["thing"]) : Cl P w K mg base 1 "is_name" sp_is_name := by
  refine cl_of (k := 0) D sc_is_name (fun vs H Q E h => ?_) (fun f cdv A outer s H vs Q E hr h => ?_)
  · obtain ⟨p, ⟨rfl, _⟩, _⟩ := h
    rfl
  · obtain ⟨z, ⟨rfl, hz⟩, q⟩ := h
    refine ⟨_, (pss_cons (ps_if (PW.pt (pw_or (pt_not (pt_val (pe_callB call_isi (by rfl) T.z_isinstance (by decide +kernel) (pa_cons (pv 0) (pa_cons (pe_ty "str" (by rfl) T.z_str (by decide +kernel)) pa_nil))))) (pw_or1 (pt_not (pt_chain op_le op_le pe_int (pe_callB call_len_str (by rfl) T.z_len PySem.boot_len (pa_cons (pv 0) pa_nil)) (pe_gi (by rfl) T.c_MOST_NAME))))))
        (pss_one (ps_ret pe_bl))
        pss_nil)
      (pss_one (ps_ret (pe_callB (cr_all rfl) (by rfl) T.z_all (by decide +kernel) (pa_cons (pe_lc (own := [("sign", 1)]) (g := (gName 1)) (by rfl) sc_is_name.nd (pi_str (pv 0)) (blkOk_by (own := [("sign", 1)]) (N := ["thing", "sign"]) (sc := defScope s_is_name) (by decide +kernel)) (fun _ _ _ _ _ => (pg_name (i := 1) sc_is_name.nd rfl (.inl rfl))) (fun _ _ _ _ _ => pts_nil) (fun _ _ _ _ _ => (pe_cmpR op_in_sign (pv 1) (pe_gs (by rfl) T.c_NAME_LETTERS) (by rfl)))) pa_nil))))), ?_⟩
    have h1 := hz.l1
    have h4 := hz.l4
    have hs : z.cps.size = z.length := rfl
    refine q_when (b := false) (et_is (et_or (et_not (et_val (ev_isi (ev_var rfl) ev_c (.ty _) (fun _ _ => tyx_str z) kit_ss))) (fun _ => et_not (et_test (ev_chain ev_c (ev_lenS (ev_var rfl) (by omega)) (fun _ => ev_c) rv_I0 (fun _ => rv_I0))))) ?_) (fun hb => by cases hb) (fun _ H1 e1 => ?_)
    · show (!true || !(decide ((1 : Int) ≤ (z.length : Int)) && decide ((z.length : Int) ≤ 4))) = false
      rw [decide_eq_true (by omega), decide_eq_true (by omega)]
      rfl
    · refine s_ret (ev_all (bs := List.replicate z.cps.size true) ?_) fun H2 e2 => q _ H2 (e1.trans e2) ?_
      · have e : (List.replicate z.cps.size true).map V.bl = (List.range z.cps.size).map (fun _ => V.bl true) := by
          rw [List.map_const', List.length_range, List.map_replicate]
        rw [e]
        refine el_lcS (ev_var rfl) (fun _ => .bl true) (by omega) (fun _ => rfl) (fun i c H2 e2 hc => ?_)
        refine ev_op (ev_var rfl) ev_c ?_
        have hm : c ∈ letters.cps.toList := hz.abc c (by
          obtain ⟨hi, e⟩ := Array.getElem?_eq_some_iff.mp hc
          rw [← e]
          exact Array.getElem_mem_toList hi)
        exact fun H3 _ Q q3 => ⟨c, letters, rfl, rfl, by rw [decide_eq_true hm]; exact q3 H3 (Ex.refl H3)⟩
      · show V.bl ((List.replicate z.cps.size true).all id) = V.bl true
        rw [show (List.replicate z.cps.size true).all id = true from List.all_eq_true.mpr (fun b hb => (List.mem_replicate.mp hb).2)]
def sp_is_deed (K : PySem.W.Frag) : Sp := spX (fun (p : Str × Nat) vs H => (∃ v, vs = [v] ∧ Deed K H v p) ∧ Name p.1 ∧ p.2 ≤ 2) (fun _ v _ => v = .bl true)
theorem c_is_deed (T : Txt mg) (D : Df K mg "is_deed" s_is_deed ["thing"]) (c_is_name : Cl P w K mg base 1 "is_name" sp_is_name) (c_is_below : Cl P w K mg base 2 "is_below" sp_is_below) : Cl P w K mg base 3 "is_deed" (sp_is_deed K) := by
  refine cl_of (k := 2) D sc_is_deed (fun vs H Q E h => ?_) (fun f cdv A outer s H vs Q E hr h => ?_)
  · obtain ⟨p, ⟨⟨v, rfl, _⟩, _⟩, _⟩ := h
    rfl
  · obtain ⟨⟨z, p⟩, ⟨⟨v, rfl, b, rfl, hb⟩, hz, hp⟩, q⟩ := h
    refine ⟨_, (pss_one (ps_ret (pe_and (pe_callB call_isi (by rfl) T.z_isinstance (by decide +kernel) (pa_cons (pv 0) (pa_cons (pe_ty "tuple" (by rfl) T.z_tuple (by decide +kernel)) pa_nil))) (pe_and (pe_cmpR op_eq (pe_callB call_len_seq (by rfl) T.z_len PySem.boot_len (pa_cons (pv 0) pa_nil)) pe_int (nomark _)) (pe_and (pe_cl c_is_name hr (by first | decide | omega) (by rfl) (pa_cons (pe_ix ix_tup (pv 0) pe_int (fun _ _ => rfl)) pa_nil)) (pe_one (pe_cl c_is_below hr (by first | decide | omega) (by rfl) (pa_cons (pe_ix ix_tup (pv 0) pe_int (fun _ _ => rfl)) (pa_cons (pe_op op_add (pe_gi (by rfl) T.c_MOST_PLACES) pe_int) pa_nil))))))))), ?_⟩
    refine s_ret (ev_andV (ev_isi (ev_var rfl) ev_c (.ty _) (fun _ e => tyx_tup (ex_t e hb)) kit_tt) (fun _ => ev_andV (ev_op (ev_lenT (ev_var rfl) hb) ev_c (rv_eq rfl)) (fun _ =>
      ev_andV (ev_callV (v := .bl true) z (ea_cons (ev_op (ev_var rfl) ev_c (rv_ixT hb (atI_vi (k := 0) rfl))) ea_nil) (fun _ _ => ⟨rfl, hz⟩) (fun _ _ p => p)) (fun _ =>
        ev_callV (v := .bl true) (((p : Nat) : Int), (3 : Int)) (ea_cons (ev_op (ev_var rfl) ev_c (rv_ixT hb (atI_vi (k := 1) rfl))) (ea_cons (ev_op ev_c ev_c rv_I0) ea_nil)) (fun _ _ => ⟨rfl, by show (0 : Int) ≤ (p : Int); omega, by show (p : Int) < 3; have : p ≤ 2 := hp; omega⟩) (fun _ _ p => p))))) fun H1 e => q _ H1 e rfl
/-- a signature as the law draws it -/
structure SigOk (sg : List (Str × Nat)) : Prop where
  l1 : 1 ≤ sg.length
  l4 : sg.length ≤ 4
  nm : ∀ p ∈ sg, Name p.1
  pl : ∀ p ∈ sg, p.2 ≤ 2
  nd : (sg.map (·.1)).Nodup
def sp_signature_wrong (K : PySem.W.Frag) : Sp := spX (fun (sg : List (Str × Nat)) vs H => (∃ v, vs = [v] ∧ Sig K H v sg) ∧ SigOk sg) (fun _ v _ => v = .non)
theorem c_signature_wrong (T : Txt mg) (D : Df K mg "signature_wrong" s_signature_wrong ["thing"]) (c_is_deed : Cl P w K mg base 3 "is_deed" (sp_is_deed K)) : Cl P w K mg base 4 "signature_wrong" (sp_signature_wrong K) := by
  refine cl_of (k := 3) D sc_signature_wrong (fun vs H Q E h => ?_) (fun f cdv A outer s H vs Q E hr h => ?_)
  · obtain ⟨p, ⟨⟨v, rfl, _⟩, _⟩, _⟩ := h
    rfl
  · obtain ⟨sg, ⟨⟨v, rfl, a, us, rfl, hS, hP⟩, ok⟩, q⟩ := h
    refine ⟨_, (pss_cons (ps_if (PW.pt (pw_or (pt_not (pt_val (pe_callB call_isi (by rfl) T.z_isinstance (by decide +kernel) (pa_cons (pv 0) (pa_cons (pe_ty "tuple" (by rfl) T.z_tuple (by decide +kernel)) pa_nil))))) (pw_or1 (pt_not (pt_chain op_le op_le pe_int (pe_callB call_len_seq (by rfl) T.z_len PySem.boot_len (pa_cons (pv 0) pa_nil)) (pe_gi (by rfl) T.c_MOST_DEEDS))))))
        (pss_one (ps_ret (pe_tup (pa_cons pe_str pa_nil))))
        pss_nil)
      (pss_cons (ps_for PassesOwn.never (by rfl) (pi_enumT (by rfl) T.z_enumerate (pa_cons (pv 0) pa_nil)) (pg_tup (by rfl) (pgs_cons (pg_name (i := 1) sc_signature_wrong.nd rfl (.inl rfl)) (pgs_cons (pg_name (i := 2) sc_signature_wrong.nd rfl (.inl rfl)) pgs_nil)))
        (pss_one (ps_if (pt_not (pt_val (pe_cl c_is_deed hr (by first | decide | omega) (by rfl) (pa_cons (pv 2) pa_nil))))
          (pss_one (ps_ret (pe_tup (pa_cons pe_str (pa_cons (pv 1) pa_nil)))))
          pss_nil)))
      (pss_cons (ps_setLc (i := 3) (own := [("deed", 2)]) (g := (gName 2)) (by rfl) sc_signature_wrong.nd rfl rfl (sw_true rfl rfl rfl (by decide +kernel)) (pi_tup (pv 0)) (blkOk_by (own := [("deed", 2)]) (N := ["thing", "k", "deed", "names", "name"]) (sc := defScope s_signature_wrong) (by decide +kernel)) (fun _ _ _ _ _ => (pg_name (i := 2) sc_signature_wrong.nd rfl (.inl rfl))) (fun _ _ _ _ _ => pts_nil) (fun _ _ _ _ _ => (pe_ix (ix_tupK K) (pv 2) pe_int (fun _ _ => rfl))))
      (pss_cons (ps_for PassesOwn.never (by rfl) (pi_enum (by rfl) T.z_enumerate (pa_cons (pv 3) pa_nil)) (pg_tup (by rfl) (pgs_cons (pg_name (i := 1) sc_signature_wrong.nd rfl (.inl rfl)) (pgs_cons (pg_name (i := 4) sc_signature_wrong.nd rfl (.inl rfl)) pgs_nil)))
        (pss_one (ps_if (pt_cmpR op_in_seq (pv 4) (pe_slice sl_list (pv 3) po_none (po_some (pv 1))) (by rfl))
          (pss_one (ps_ret (pe_tup (pa_cons pe_str (pa_cons (pv 1) pa_nil)))))
          pss_nil)))
      (pss_one (ps_ret pe_non)))))), ?_⟩
    have h1 := ok.l1
    have h4 := ok.l4
    have hl : us.length = sg.length := paired_len hP
    refine q_when (b := false) (et_is (et_or (et_not (et_val (ev_isi (ev_var rfl) ev_c (.ty _) (fun _ e => tyx_tup (ex_t e hS)) kit_tt))) (fun _ => et_not (et_test (ev_chain ev_c (ev_lenT (ev_var rfl) hS) (fun _ => ev_c) rv_I0 (fun _ => rv_I0))))) ?_) (fun hb => by cases hb) (fun _ H1 e1 => ?_)
    · show (!true || !(decide ((1 : Int) ≤ (us.length : Int)) && decide ((us.length : Int) ≤ 4))) = false
      rw [decide_eq_true (by omega), decide_eq_true (by omega)]
      rfl
    -- each is a deed
    refine q_enumT (ea_cons (ev_var rfl) ea_nil) (ex_t e1 hS) (fun i σ H' => Ex H H' ∧ ∃ y1 y2, σ = [some (.ref a), y1, y2, none, none]) (fun H2 e2 => ⟨e1.trans e2, none, none, rfl⟩) (fun i σ H' _ ⟨e, _⟩ => ex_t e hS) (fun i x σ H2 H3 hx ⟨e, y1, y2, hσ⟩ e3 => ?_) (fun σ H2 ⟨e2, y1, y2, hσ⟩ => ?_)
    · subst hσ
      have hi : i < sg.length := by rw [← hl]; exact (List.getElem?_eq_some_iff.mp hx).1
      obtain ⟨x', ex', dx⟩ := paired_get hP (List.getElem?_eq_getElem hi)
      have : x' = x := Option.some.inj (ex'.symm.trans hx)
      subst this
      have hm : sg[i] ∈ sg := List.getElem_mem hi
      have e03 : Ex H H3 := e.trans e3
      refine s_when (b := false) (et_is (et_not (et_val (ev_callV (v := .bl true) sg[i] (ea_cons (ev_var rfl) ea_nil) (fun H4 e4 => ⟨⟨_, rfl, dx.et (Dw.Ex.et (e03.trans e4))⟩, ok.nm _ hm, ok.pl _ hm⟩) (fun _ _ p => p)))) rfl) (fun hb => by cases hb) (fun _ H4 e4 => ⟨e03.trans e4, _, _, rfl⟩)
    · subst hσ
      -- the names
      have names : EvL (tLc (iTup K (tVar 0)) (gName 2) tYes (tOp (rIxT K) (tVar 2) (tC (.int 0))) [2]) [some (.ref a), y1, y2, none, none] H2 ((List.range us.length).map fun i => .str (sg.getD i ("", 0)).1) := by
        refine el_lcT (ev_var rfl) (ex_t e2 hS) _ (by omega) (fun _ => rfl) (fun i x H3 e3 hx => ?_)
        have hi : i < sg.length := by rw [← hl]; exact (List.getElem?_eq_some_iff.mp hx).1
        obtain ⟨x', ex', b, hb, hd⟩ := paired_get hP (List.getElem?_eq_getElem hi)
        have : x' = x := Option.some.inj (ex'.symm.trans hx)
        subst this
        subst hb
        rw [List.getD_eq_getElem?_getD, List.getElem?_eq_getElem hi]
        exact ev_op (ev_var rfl) ev_c (rv_ixT (ex_t (e2.trans e3) hd) (atI_vi (k := 0) rfl))
      rw [hl] at names
      have eN : ((List.range sg.length).map fun i => V.str (sg.getD i ("", 0)).1) = (sg.map (·.1)).map V.str := by
        apply List.ext_getElem?
        intro i
        by_cases hi : i < sg.length
        · rw [List.getElem?_map, List.getElem?_range hi, List.getElem?_map, List.getElem?_map, List.getElem?_eq_getElem hi]
          show some (V.str (sg.getD i ("", 0)).1) = some (V.str sg[i].1)
          rw [List.getD_eq_getElem?_getD, List.getElem?_eq_getElem hi]
          rfl
        · rw [List.getElem?_eq_none_iff.mpr (by simp; omega), List.getElem?_eq_none_iff.mpr (by simp; omega)]
      rw [eN] at names
      refine q_asgL names fun p H3 np e3 hp => ?_
      have e03 : Ex H H3 := e2.trans e3
      refine q_enumL (K := K) (ea_cons (ev_var rfl) ea_nil) (sq_of hp) (fun i σ H' => Ex H3 H' ∧ ∃ z1 z4, σ = [some (.ref a), z1, y2, some (.ref p), z4]) (fun H4 e4 => ⟨e4, _, _, rfl⟩) (fun i σ H' _ ⟨e, _⟩ => ex_l e (sq_of hp)) (fun i x σ H4 H5 hx ⟨e4, z1, z4, hσ⟩ e5 => ?_) (fun σ H4 ⟨e4, z1, z4, hσ⟩ => ?_)
      · subst hσ
        have hi : i < (sg.map (·.1)).length := by simpa using (List.getElem?_eq_some_iff.mp hx).1
        have ex : x = .str (sg.map (·.1))[i] := by
          rw [List.getElem?_map, List.getElem?_eq_getElem hi] at hx
          exact (Option.some.inj hx).symm
        subst ex
        have cut : cutV ((sg.map (·.1)).map V.str) none (some (i : Int)) = ((sg.map (·.1)).take i).map V.str := by
          unfold cutV
          rw [HT.sIx_none, HT.sIx_nat, List.length_map, Nat.sub_zero, List.drop_zero, ← List.map_take, Nat.min_eq_left (Nat.le_of_lt hi)]
        have flat : (((sg.map (·.1)).take i).map V.str).all flatV = true := List.all_eq_true.mpr (fun v hv => by
          obtain ⟨z, _, rfl⟩ := List.mem_map.mp hv
          rfl)
        have out : inV (.str (sg.map (·.1))[i]) (((sg.map (·.1)).take i).map V.str) = false := by
          unfold inV
          rw [List.any_eq_false]
          intro v hv
          obtain ⟨z, hz, rfl⟩ := List.mem_map.mp hv
          show ¬ (z == (sg.map (·.1))[i]) = true
          intro he
          have he' : z = (sg.map (·.1))[i] := eq_of_beq he
          obtain ⟨j, hj, ej⟩ := List.mem_take_iff_getElem.mp hz
          have hji : j < i := by omega
          have := (List.getElem_inj ok.nd).mp (ej.trans he')
          omega
        have eL : Ex H3 H5 := e4.trans e5
        have sl : EvL (tSl (rSlL K) (tVar 3) tNoPart (tPart (tVar 1))) [some (.ref a), some (vi i), y2, some (.ref p), some (.str (sg.map (·.1))[i])] H5 (((sg.map (·.1)).take i).map V.str) := by
          rw [← cut]
          exact el_sl (ev_var rfl) eo_none (eo_some (ev_var rfl)) (ex_l eL (sq_of hp))
        exact s_when (b := false) (et_is (et_test (ev_opL (ev_var rfl) sl (fun r H6 hr6 _ => rv_isL (sq_of hr6) rfl flat))) out) (fun hb => by cases hb) (fun _ H6 e6 => ⟨eL.trans e6, _, _, rfl⟩)
      · subst hσ
        exact s_ret ev_c fun H5 e5 => q _ H5 ((e03.trans e4).trans e5) rfl
def sp_need_signature (K : PySem.W.Frag) : Sp := spX (fun (sg : List (Str × Nat)) vs H => (∃ v, vs = [v] ∧ Sig K H v sg) ∧ SigOk sg) (fun _ v _ => v = .non)
theorem c_need_signature (T : Txt mg) (D : Df K mg "need_signature" s_need_signature ["signature"]) (c_signature_wrong : Cl P w K mg base 4 "signature_wrong" (sp_signature_wrong K)) : Cl P w K mg base 5 "need_signature" (sp_need_signature K) := by
  refine cl_of (k := 4) D sc_need_signature (fun vs H Q E h => ?_) (fun f cdv A outer s H vs Q E hr h => ?_)
  · obtain ⟨p, ⟨⟨v, rfl, _⟩, _⟩, _⟩ := h
    rfl
  · obtain ⟨sg, ⟨⟨v, rfl, hS⟩, ok⟩, q⟩ := h
    refine ⟨_, (pss_one (ps_if (pt_cmpR op_notN (pe_cl c_signature_wrong hr (by first | decide | omega) (by rfl) (pa_cons (pv 0) pa_nil)) pe_non (nomark _))
        (pss_one ps_never)
        pss_nil)), ?_⟩
    exact s_when (b := false) (et_is (et_isN (ev_callV (v := .non) sg (ea_cons (ev_var rfl) ea_nil) (fun H1 e1 => ⟨⟨_, rfl, hS.ex e1⟩, ok⟩) (fun _ _ p => p))) rfl) (fun hb => by cases hb) (fun _ H1 e1 => q _ H1 e1 rfl)
/-! ### models looked at -/
/-- a model of a signature, as tables of natural numbers -/
structure MdlOk (sg : List (Str × Nat)) (n : Nat) (ts : List (List Nat)) : Prop where
  n1 : 1 ≤ n
  n6 : n ≤ 6
  len : ts.length = sg.length
  tab : ∀ i (h1 : i < sg.length) (h2 : i < ts.length), Tab n sg[i].2 ts[i]
theorem MdlOk.low {sg : List (Str × Nat)} {n : Nat} {ts : List (List Nat)} (m : MdlOk sg n ts) : ∀ t ∈ ts, ∀ k ∈ t, k < n := by
  intro t ht k hk
  obtain ⟨i, hi, e⟩ := List.mem_iff_getElem.mp ht
  subst e
  have tb := m.tab i (by rw [← m.len]; exact hi) hi
  obtain ⟨j, hj, e⟩ := List.mem_iff_getElem.mp hk
  have h := tb.low j (by rw [← tb.len]; exact hj)
  have g1 := g_eq hj
  rw [List.getElem?_eq_getElem hj, e] at g1
  rw [← Option.some.inj g1] at h
  exact h
end
end K02
end
section
namespace K02
open PySem PySem.Spec PyProof.Rows L2 Evl Dw M20
/-! ### terms -/
inductive Tm where
  | var (x : Str)
  | deed (f : Str) (ts : List Tm)
mutual
def Tm.sz : Tm → Nat
  | .var _ => 1
  | .deed _ ts => 1 + szs ts
def szs : List Tm → Nat
  | [] => 0
  | t :: ts => t.sz + szs ts
end
mutual
/-- the variables, at each place -/
def Tm.ls : Tm → List Str
  | .var x => [x]
  | .deed _ ts => lss ts
def lss : List Tm → List Str
  | [] => []
  | t :: ts => t.ls ++ lss ts
end
mutual
def TmV (K : PySem.W.Frag) (H : Hp) : Tm → V → Prop
  | .var x => fun v => ∃ a, v = .ref a ∧ SqT K H a [.str "var", .str x]
  | .deed f ts => fun v => ∃ a b vs, v = .ref a ∧ SqT K H a [.str "deed", .str f, .ref b] ∧ SqT K H b vs ∧ TmsV K H ts vs
def TmsV (K : PySem.W.Frag) (H : Hp) : List Tm → List V → Prop
  | [] => fun vs => vs = []
  | t :: ts => fun vs => ∃ v us, vs = v :: us ∧ TmV K H t v ∧ TmsV K H ts us
end
section
variable {K : PySem.W.Frag} {H H' : Hp}
mutual
theorem TmV.et (e : ET K H H') : ∀ {t : Tm} {v : V}, TmV K H t v → TmV K H' t v
  | .var x, v, h => by
    rw [TmV] at h ⊢
    obtain ⟨a, q, s⟩ := h
    exact ⟨a, q, e _ _ s⟩
  | .deed f ts, v, h => by
    rw [TmV] at h ⊢
    obtain ⟨a, b, vs, q, s, s2, r⟩ := h
    exact ⟨a, b, vs, q, e _ _ s, e _ _ s2, TmsV.et e r⟩
theorem TmsV.et (e : ET K H H') : ∀ {ts : List Tm} {vs : List V}, TmsV K H ts vs → TmsV K H' ts vs
  | [], vs, h => by
    rw [TmsV] at h ⊢
    exact h
  | t :: ts, vs, h => by
    rw [TmsV] at h ⊢
    obtain ⟨v, us, q, a, b⟩ := h
    exact ⟨v, us, q, TmV.et e a, TmsV.et e b⟩
end
theorem szs_app : ∀ (a b : List Tm), szs (a ++ b) = szs a + szs b
  | [], b => by rw [szs, Nat.zero_add]; rfl
  | t :: a, b => by rw [List.cons_append, szs, szs, szs_app a b, Nat.add_assoc]
theorem TmsV.app : ∀ {a b : List Tm} {us vs : List V}, TmsV K H a us → TmsV K H b vs → TmsV K H (a ++ b) (us ++ vs)
  | [], b, us, vs, h, k => by
    rw [TmsV] at h
    subst h
    exact k
  | t :: a, b, us, vs, h, k => by
    rw [TmsV] at h
    obtain ⟨v, ws, q, x, y⟩ := h
    subst q
    show TmsV K H (t :: (a ++ b)) (v :: (ws ++ vs))
    rw [TmsV]
    exact ⟨v, _, rfl, x, TmsV.app y k⟩
theorem TmsV.one {t : Tm} {v : V} (h : TmV K H t v) : TmsV K H [t] [v] := by
  rw [TmsV]
  exact ⟨v, [], rfl, h, by rw [TmsV]⟩
theorem TmsV.rev : ∀ {a : List Tm} {us : List V}, TmsV K H a us → TmsV K H a.reverse us.reverse
  | [], us, h => by
    rw [TmsV] at h
    subst h
    show TmsV K H [] []
    rw [TmsV]
  | t :: a, us, h => by
    rw [TmsV] at h
    obtain ⟨v, ws, q, x, y⟩ := h
    subst q
    rw [List.reverse_cons, List.reverse_cons]
    exact (TmsV.rev y).app (TmsV.one x)
theorem TmsV.len : ∀ {a : List Tm} {us : List V}, TmsV K H a us → us.length = a.length
  | [], us, h => by
    rw [TmsV] at h
    subst h
    rfl
  | t :: a, us, h => by
    rw [TmsV] at h
    obtain ⟨v, ws, q, x, y⟩ := h
    subst q
    rw [List.length_cons, List.length_cons, y.len]
/-- the last one of them -/
theorem TmsV.last {a : List Tm} {us : List V} (h : TmsV K H a us) (ne : a ≠ []) : ∃ b t ws v, a = b ++ [t] ∧ us = ws ++ [v] ∧ TmsV K H b ws ∧ TmV K H t v := by
  have r := h.rev
  cases e : a.reverse with
  | nil => exact absurd (List.reverse_eq_nil_iff.mp e) ne
  | cons t b =>
    rw [e, TmsV] at r
    obtain ⟨v, ws, q, x, y⟩ := r
    refine ⟨b.reverse, t, ws.reverse, v, ?_, ?_, y.rev, x⟩
    · have z := congrArg List.reverse e
      rw [List.reverse_reverse, List.reverse_cons] at z
      exact z
    · have z := congrArg List.reverse q
      rw [List.reverse_reverse, List.reverse_cons] at z
      exact z
theorem szs_rev : ∀ a : List Tm, szs a.reverse = szs a
  | [] => rfl
  | t :: a => by
    rw [List.reverse_cons, szs_app, szs_rev a, szs, szs, szs]
    omega
theorem len_szs : ∀ a : List Tm, a.length ≤ szs a
  | [] => Nat.zero_le _
  | t :: a => by
    have h := len_szs a
    have p : 1 ≤ t.sz := by cases t <;> (rw [Tm.sz]; omega)
    rw [szs, List.length_cons]
    omega
end
end K02
end
section
namespace K02
open PySem PySem.Spec PyProof.Rows L2 Evl Dw M20
section
variable {K : PySem.W.Frag} {σ : L2.St} {H : Hp} {ta te : TE}
theorem do_pop {l : Addr} {xs : List V} {y : V} {Q : VK} (hl : H l = some (.lst (xs ++ [y]))) (ha : Ev ta σ H (.ref l)) (h : ∀ H1, Ex H H1 → Q y (upd H1 l (.lst xs))) : tBM0 K "list" rPop ta σ H Q := by
  refine ha H (Ex.refl H) _ fun H1 e1 => ⟨Or.inl ⟨rfl, _, sq_of (e1 l _ hl)⟩, l, _, y, rfl, rfl, e1 l _ hl, ?_, ?_⟩
  · rw [List.length_append, List.length_singleton, Nat.add_sub_cancel, List.getElem?_append_right (Nat.le_refl _), Nat.sub_self]
    rfl
  · rw [List.dropLast_concat]
    exact h H1 e1
theorem do_set {i : Nat} {te : TE} {tz : TS} {D : Ends} (h : te σ H fun x H1 => tz D (σ.set i (some x)) H1) : tSeq (tAsg te (gName i)) tz D σ H := h
theorem et_truL {l : Addr} {xs : List V} (h : Ev te σ H (.ref l)) (hl : SqL K H l xs) : EvT (fun σ H Q => te σ H fun x H' => ∃ k, TruV K x H' k ∧ Q k H') σ H (!xs.isEmpty) := fun H1 e Q q =>
  h H1 e _ fun H2 e2 => ⟨_, .inl ⟨xs, ex_l (e.trans e2) hl, rfl⟩, q H2 e2⟩
theorem inV_str (x : Str) : ∀ ks : List Str, inV (.str x) (ks.map V.str) = decide (x ∈ ks)
  | [] => rfl
  | k :: ks => by
    have ih := inV_str x ks
    unfold inV at ih ⊢
    rw [List.map_cons, List.any_cons, ih]
    have e : eqV (V.str k) (V.str x) = decide (x = k) := by
      by_cases h : x = k
      · subst h
        simp [eqV]
      · have h2 : ¬ k = x := fun z => h z.symm
        simp [eqV, h, h2]
    rw [e]
    by_cases h : x = k <;> simp [h]
theorem flat_strs (ks : List Str) : (ks.map V.str).all flatV = true := by
  rw [List.all_eq_true]
  intro v hv
  obtain ⟨k, _, e⟩ := List.mem_map.mp hv
  rw [← e]
  rfl
end
section
variable {P : Program} {w : World} {K : PySem.W.Frag} {mg : Str → Option Value} {base : Heap}
end
end K02
end
section
namespace K02
open PySem PySem.Spec PyProof.Rows L2 Evl Dw M20
theorem TmsV.get {K : PySem.W.Frag} {H : Hp} : ∀ {ts : List Tm} {us : List V} {i : Nat} {u : V}, TmsV K H ts us → us[i]? = some u → ∃ t, ts[i]? = some t ∧ TmV K H t u
  | [], us, i, u, h, e => by
    rw [TmsV] at h
    subst h
    rw [List.getElem?_nil] at e
    cases e
  | t :: ts, us, i, u, h, e => by
    rw [TmsV] at h
    obtain ⟨v, ws, q, a, b⟩ := h
    subst q
    match i, e with
    | 0, e =>
      cases Option.some.inj (show some v = some u from e)
      exact ⟨t, rfl, a⟩
    | i + 1, e =>
      show ∃ t, ts[i]? = some t ∧ _
      exact TmsV.get b (show ws[i]? = some u from e)
theorem fold_nd : ∀ (xs ks : List Str), ks.Nodup → (xs.foldl addK ks).Nodup
  | [], ks, h => h
  | x :: xs, ks, h => by
    rw [List.foldl_cons]
    refine fold_nd xs _ ?_
    unfold addK
    split
    · exact h
    · rename_i no
      exact (List.perm_append_singleton x ks).nodup_iff.mpr (List.nodup_cons.mpr ⟨no, h⟩)
theorem firsts_nd (xs : List Str) : (firsts xs).Nodup := fold_nd xs [] List.nodup_nil
theorem szs_take {ts : List Tm} {i : Nat} {t : Tm} (h : ts[i]? = some t) : szs (ts.take (i + 1)) = szs (ts.take i) + t.sz := by
  rw [List.take_add_one, h, szs_app]
  show _ + szs [t] = _
  rw [szs, szs, Nat.add_zero]
theorem szs_take_le (ts : List Tm) (i : Nat) : szs (ts.take i) ≤ szs ts := by
  have h : szs ts = szs (ts.take i) + szs (ts.drop i) := by rw [← szs_app, List.take_append_drop]
  omega
theorem sz_le {ts : List Tm} {i : Nat} {t : Tm} (h : ts[i]? = some t) : t.sz ≤ szs ts := by
  have a := szs_take h
  have b := szs_take_le ts (i + 1)
  omega
def FStrs (H : Hp) (v : V) (ls : List Str) : Prop := ∃ a o, v = .ref a ∧ H a = some (.frz o (.tup (ls.map V.str))) ∧ o.dict = none
theorem FStrs.ex {H H' : Hp} {v : V} {ls : List Str} (e : Ex H H') (h : FStrs H v ls) : FStrs H' v ls := let ⟨a, o, q, s, d⟩ := h; ⟨a, o, q, e _ _ s, d⟩
section
variable {P : Program} {w : World} {K : PySem.W.Frag} {mg : Str → Option Value} {base : Heap}
end
end K02
end
section
namespace K02
open PySem PySem.Spec PyProof.Rows L2 Evl Dw M20
def vars : List Str := ["u", "v", "w", "x", "y", "z"]
structure Vars (K : PySem.W.Frag) (mg : Str → Option Value) (va : Addr) : Prop where
  at_ : mg "VARIABLES" = some (.ref va)
  sq : ∀ H, SqT K H va (vars.map V.str)
theorem pe_gv {X : Cx} {x : Str} {pos : Pos} {a : Addr} (hg : Gl X x) (h : X.mg x = some (.ref a)) (hn : x ≠ "__name__" := by decide) (hd : (x == ("__debug__" : Str)) = false := by decide) : PE X (.Name x pos) (tC (.ref a)) := pe_glob hg h rfl (hd := hd)
section
variable {σ : L2.St} {H : Hp} {ta tb : TE}
theorem do_par {i j : Nat} {t : TA} {tz : TS} {D : Ends} (h : t σ H fun vs H1 => ∃ x y, vs = [x, y] ∧ tz D ((σ.set i (some x)).set j (some y)) H1) : tSeq (tPar i j t) tz D σ H := h
theorem ev_din {d : Addr} {kvs : List (Key × V)} {x : Str} {b : Bool} (ha : Ev ta σ H (.str x)) (hb : Ev tb σ H (.ref d)) (hd : H d = some (.dK kvs)) (hv : (valV kvs (.inr x)).isSome = b) : Ev (tDIn ta tb) σ H (.bl b) := fun H1 e Q q =>
  ha H1 e _ fun H2 e2 => hb H2 (e.trans e2) _ fun H3 e3 => ⟨d, valV kvs (.inr x), rfl, DGet.k (k := .inr x) (((e.trans e2).trans e3) _ _ hd), by rw [hv]; exact q H3 (e2.trans e3)⟩
theorem ev_dget {d : Addr} {kvs : List (Key × V)} {x : Str} {v : V} (ha : Ev ta σ H (.ref d)) (hb : Ev tb σ H (.str x)) (hd : H d = some (.dK kvs)) (hv : valV kvs (.inr x) = some v) : Ev (tDGet ta tb) σ H v := fun H1 e Q q =>
  ha H1 e _ fun H2 e2 => hb H2 (e.trans e2) _ fun H3 e3 => ⟨d, v, rfl, hv ▸ DGet.k (k := .inr x) (((e.trans e2).trans e3) _ _ hd), q H3 (e2.trans e3)⟩
end
/-- the dict of a signature's deeds -/
def Plc (H : Hp) (d : Addr) (sg : List (Str × Nat)) : Prop := ∃ kvs : List (Key × V), H d = some (.dK kvs) ∧ ∀ p ∈ sg, valV kvs (.inr p.1) = some (vi p.2)
mutual
/-- a term's own form, all through -/
def Tm.ok (sg : List (Str × Nat)) : Tm → Prop
  | .var x => x ∈ vars
  | .deed f ts => (f, ts.length) ∈ sg ∧ oks sg ts
def oks (sg : List (Str × Nat)) : List Tm → Prop
  | [] => True
  | t :: ts => t.ok sg ∧ oks sg ts
end
section
variable {P : Program} {w : World} {K : PySem.W.Frag} {mg : Str → Option Value} {base : Heap} {va : Addr}
def sp_has_term_form (K : PySem.W.Frag) : Sp := spX (fun (p : List (Str × Nat) × Tm) vs H => (∃ d v, vs = [.ref d, v] ∧ Plc H d p.1 ∧ TmV K H p.2 v) ∧ p.2.ok p.1) (fun _ v _ => v = .bl true)
theorem c_has_term_form (T : Txt mg) (V0 : Vars K mg va) (D : Df K mg "has_term_form" s_has_term_form ["places", "thing"]) : Cl P w K mg base 1 "has_term_form" (sp_has_term_form K) := by
  refine cl_of (k := 0) D sc_has_term_form (fun vs H Q E h => ?_) (fun f cdv A outer s H vs Q E hr h => ?_)
  · obtain ⟨p, ⟨⟨d, v, rfl, _⟩, _⟩, _⟩ := h
    rfl
  · obtain ⟨⟨sg, t⟩, ⟨⟨d, v, rfl, ⟨kvs, hd, val⟩, tv⟩, ok⟩, q⟩ := h
    refine ⟨_, (pss_cons (ps_if (pt_not (pt_val (pe_callB call_isi (by rfl) T.z_isinstance (by decide +kernel) (pa_cons (pv 1) (pa_cons (pe_ty "tuple" (by rfl) T.z_tuple (by decide +kernel)) pa_nil)))))
        (pss_one (ps_ret pe_bl))
        pss_nil)
      (pss_cons (ps_if (pt_cmpR op_eq (pe_callB call_len_seq (by rfl) T.z_len PySem.boot_len (pa_cons (pv 1) pa_nil)) pe_int (nomark _))
        (pss_one (ps_ret (pe_and (pe_cmpR op_eq (pe_ix ix_tup (pv 1) pe_int (fun _ _ => rfl)) pe_str (nomark _)) (pe_one (pe_cmpR op_in_seq (pe_ix ix_tup (pv 1) pe_int (fun _ _ => rfl)) (pe_gv (by rfl) V0.at_) (by rfl))))))
        pss_nil)
      (pss_cons (ps_if (PW.pt (pw_or (pt_cmpR op_ne (pe_callB call_len_seq (by rfl) T.z_len PySem.boot_len (pa_cons (pv 1) pa_nil)) pe_int (nomark _)) (pw_or1 (pt_cmpR op_ne (pe_ix ix_tup (pv 1) pe_int (fun _ _ => rfl)) pe_str (nomark _)))))
        (pss_one (ps_ret pe_bl))
        pss_nil)
      (pss_cons (ps_par (i := 2) (j := 3) (by rfl) sc_has_term_form.nd rfl rfl (by decide) rfl rfl (pa_cons (pe_ix ix_tup (pv 1) pe_int (fun _ _ => rfl)) (pa_cons (pe_ix ix_tup (pv 1) pe_int (fun _ _ => rfl)) pa_nil)) (by rfl))
      (pss_one (ps_ret (pe_and (pe_callB call_isi (by rfl) T.z_isinstance (by decide +kernel) (pa_cons (pv 2) (pa_cons (pe_ty "str" (by rfl) T.z_str (by decide +kernel)) pa_nil))) (pe_and (pe_cmp (pc_din (hu_of hr) (pv 2) (pv 0))) (pe_and (pe_callB call_isi (by rfl) T.z_isinstance (by decide +kernel) (pa_cons (pv 3) (pa_cons (pe_ty "tuple" (by rfl) T.z_tuple (by decide +kernel)) pa_nil))) (pe_one (pe_cmpR op_eq (pe_callB call_len_seq (by rfl) T.z_len PySem.boot_len (pa_cons (pv 3) pa_nil)) (pe_dget (hu_of hr) (pv 0) (pv 2) (fun _ _ => rfl)) (nomark _)))))))))))), ?_⟩
    replace tv : TmV K H t v := tv
    replace ok : t.ok sg := ok
    replace val : ∀ p ∈ sg, valV kvs (.inr p.1) = some (vi p.2) := val
    cases t with
    | var x =>
      rw [TmV] at tv
      rw [Tm.ok] at ok
      obtain ⟨a, rfl, ha⟩ := tv
      refine q_when (b := false) (et_is (et_not (et_val (ev_isi (ev_var rfl) ev_c (.ty _) (fun _ e => tyx_tup (ex_t e ha)) kit_tt))) rfl) (fun hb => by cases hb) (fun _ H1 e1 => ?_)
      refine q_when (b := true) (et_is (et_test (ev_op (ev_lenT (ev_var rfl) (ex_t e1 ha)) ev_c (rv_eq rfl))) rfl) (fun _ H2 e2 => ?_) (fun hb => by cases hb)
      have e02 := e1.trans e2
      refine s_ret (v := .bl true) (ev_is (ev_andV (ev_op (ev_op (ev_var rfl) ev_c (rv_ixT (K := K) (ex_t e02 ha) (atI_vi (k := 0) rfl))) ev_c (rv_eq rfl)) (fun _ => ev_op (ev_op (ev_var rfl) ev_c (rv_ixT (K := K) (ex_t e02 ha) (atI_vi (k := 1) rfl))) ev_c (rv_isT (V0.sq _) rfl (flat_strs vars)))) (by rw [inV_str, decide_eq_true ok]; rfl)) fun H3 e3 => q _ H3 (e02.trans e3) rfl
    | deed f ts =>
      rw [TmV] at tv
      rw [Tm.ok] at ok
      obtain ⟨a, b, us, rfl, ha, hb, tms⟩ := tv
      obtain ⟨mem, _⟩ := ok
      have lu := tms.len
      have vf := val _ mem
      refine q_when (b := false) (et_is (et_not (et_val (ev_isi (ev_var rfl) ev_c (.ty _) (fun _ e => tyx_tup (ex_t e ha)) kit_tt))) rfl) (fun hb => by cases hb) (fun _ H1 e1 => ?_)
      refine q_when (b := false) (et_is (et_test (ev_op (ev_lenT (ev_var rfl) (ex_t e1 ha)) ev_c (rv_eq rfl))) rfl) (fun hb => by cases hb) (fun _ H2 e2 => ?_)
      have e02 := e1.trans e2
      refine q_when (b := false) (et_is (et_or (a := false) (b := false) (et_is (et_test (ev_op (ev_lenT (ev_var rfl) (ex_t e02 ha)) ev_c (rv_ne rfl))) rfl) (fun _ => et_is (et_test (ev_op (ev_op (ev_var rfl) ev_c (rv_ixT (K := K) (ex_t e02 ha) (atI_vi (k := 0) rfl))) ev_c (rv_ne rfl))) (by decide))) rfl) (fun hb => by cases hb) (fun _ H3 e3 => ?_)
      have e03 := e02.trans e3
      have two : EvA (tCons (tOp (rIxT K) (tVar 1) (tC (.int 1))) (tCons (tOp (rIxT K) (tVar 1) (tC (.int 2))) tNil)) [some (.ref d), some (.ref a), none, none] H3 [.str f, .ref b] := ea_cons (ev_op (ev_var rfl) ev_c (rv_ixT (K := K) (ex_t e03 ha) (atI_vi (k := 1) rfl))) (ea_cons (ev_op (ev_var rfl) ev_c (rv_ixT (K := K) (ex_t e03 ha) (atI_vi (k := 2) rfl))) ea_nil)
      refine do_par (two H3 (Ex.refl _) _ fun H4 e4 => ⟨_, _, rfl, ?_⟩)
      have e04 := e03.trans e4
      show tRet _ _ [some (.ref d), some (.ref a), some (.str f), some (.ref b)] H4
      refine s_ret (v := .bl true) (ev_is (ev_andV (a := true) (ev_isi (ev_var rfl) ev_c (.ty _) (fun _ _ => tyx_str f) kit_ss) (fun _ => ev_andV (a := true) (ev_din (ev_var rfl) (ev_var rfl) (e04 _ _ hd) (by rw [vf]; rfl)) (fun _ => ev_andV (a := true) (ev_isi (ev_var rfl) ev_c (.ty _) (fun _ e => tyx_tup (ex_t (e04.trans e) hb)) kit_tt) (fun _ => ev_op (ev_lenT (ev_var rfl) (ex_t e04 hb)) (ev_dget (ev_var rfl) (ev_var rfl) (e04 _ _ hd) vf) (rv_eq rfl))))) ?_) fun H5 e5 => q _ H5 (e04.trans e5) rfl
      rw [lu]
      simp
end
end K02
end
section
namespace K02
open PySem PySem.Spec PyProof.Rows L2 Evl Dw M20
/-- a signature, its tuple told with its own object -/
def FSig (K : PySem.W.Frag) (H : Hp) (v : V) (sg : List (Str × Nat)) : Prop := ∃ (a : Addr) (o : Obj) (ps : List Addr), v = .ref a ∧ H a = some (.frz o (.tup (ps.map V.ref))) ∧ o.dict = none ∧ Paired (fun p d => SqT K H p [.str d.1, vi d.2]) ps sg
theorem FSig.ex {K : PySem.W.Frag} {H H' : Hp} {v : V} {sg : List (Str × Nat)} (e : Ex H H') (h : FSig K H v sg) : FSig K H' v sg := let ⟨a, o, ps, q, s, d, p⟩ := h; ⟨a, o, ps, q, e _ _ s, d, paired_imp (fun _ _ z => ex_t e z) p⟩
theorem paired_map {α β γ : Type} {R : α → γ → Prop} {S : β → γ → Prop} {f : α → β} (h : ∀ a c, R a c → S (f a) c) : ∀ {xs : List α} {ys : List γ}, Paired R xs ys → Paired S (xs.map f) ys
  | [], [], .nil => .nil
  | _ :: _, _ :: _, .cons r t => .cons (h _ _ r) (paired_map h t)
theorem FSig.sig {K : PySem.W.Frag} {H : Hp} {v : V} {sg : List (Str × Nat)} (h : FSig K H v sg) : Sig K H v sg := let ⟨a, o, ps, q, s, _, p⟩ := h; ⟨a, _, q, .inl (.inr ⟨o, s⟩), paired_map (f := V.ref) (fun _ _ z => ⟨_, rfl, z⟩) p⟩
/-! the dict of a signature whose names are unlike -/
def kvsOf (sg : List (Str × Nat)) : List (Key × V) := sg.map fun d => (.inr d.1, vi d.2)
theorem val_put (acc : List (Key × V)) (k j : Key) (v : V) : valV (putK acc k v) j = if j = k then some v else valV acc j := by
  unfold putK
  by_cases h : (acc.any fun kv => decide (kv.1 = k)) = true
  · rw [if_pos h, valV_map]
    rw [valV_any] at h
    by_cases e : j = k
    · subst e
      rw [if_pos rfl]
      obtain ⟨y, hy⟩ := Option.isSome_iff_exists.mp h
      rw [hy]
      simp
    · rw [if_neg e]
      cases valV acc j <;> simp [e]
  · rw [if_neg h]
    refine valV_snoc k j v acc ?_
    rw [valV_any] at h
    cases q : valV acc k with
    | none => rfl
    | some y =>
      rw [q] at h
      exact absurd rfl h
theorem val_merge : ∀ (sg : List (Str × Nat)) (acc : List (Key × V)) (x : Str) (n : Nat), (sg.map (·.1)).Nodup → ((x, n) ∈ sg ∨ (x ∉ sg.map (·.1) ∧ valV acc (.inr x) = some (vi n))) → valV (mergeK acc (kvsOf sg)) (.inr x) = some (vi n)
  | [], acc, x, n, _, h => by
    rcases h with h | h
    · cases h
    · exact h.2
  | d :: sg, acc, x, n, nd, h => by
    rw [List.map_cons, List.nodup_cons] at nd
    show valV (mergeK (putK acc (.inr d.1) (vi d.2)) (kvsOf sg)) (.inr x) = some (vi n)
    refine val_merge sg _ x n nd.2 ?_
    rcases h with h | h
    · rcases List.mem_cons.mp h with e | e
      · subst e
        refine .inr ⟨nd.1, ?_⟩
        rw [val_put, if_pos rfl]
      · exact .inl e
    · rw [List.map_cons, List.mem_cons, not_or] at h
      refine .inr ⟨h.1.2, ?_⟩
      rw [val_put, if_neg (fun z => h.1.1 (Sum.inr.inj z))]
      exact h.2
theorem paired_mapR {α β γ : Type} {R : α → β → Prop} {S : α → γ → Prop} {f : β → γ} (h : ∀ a b, R a b → S a (f b)) : ∀ {xs : List α} {ys : List β}, Paired R xs ys → Paired S xs (ys.map f)
  | [], [], .nil => .nil
  | _ :: _, _ :: _, .cons r t => .cons (h _ _ r) (paired_mapR h t)
section
variable {σ : L2.St} {H : Hp}
theorem do_setG {te : TE} {g : TG} {tz : TS} {D : Ends} (h : te σ H fun x H1 => g x σ H1 fun σ2 H2 => tz D σ2 H2) : tSeq (tAsg te g) tz D σ H := h
theorem do_app {K : PySem.W.Frag} {ta te : TE} {l : Addr} {xs : List V} {D : Ends} (hl : H l = some (.lst xs)) (ha : Ev ta σ H (.ref l))
    (h : ∀ H1, Ex H H1 → te σ H1 fun v H2 => ∃ a ys y, V.ref l = .ref a ∧ [v] = [y] ∧ H2 a = some (.lst ys) ∧ ys.length < sizeLine ∧ D.nx σ (upd H2 a (.lst (ys ++ [y])))) : tDrop (tBM K "list" rAppend ta (tCons te tNil)) D σ H :=
  ha H (Ex.refl H) _ fun H1 e1 => ⟨Or.inl ⟨rfl, xs, sq_of (e1 l _ hl)⟩, h H1 e1⟩
/-- for j in reversed(range(n)) -/
theorem s_forRev {te : TE} {tu : TS} {D : Ends} {j n : Nat} (h : Ev te σ H (vi n)) (hn : n ≤ 1000) (Pv : Nat → L2.St → Hp → Prop) (h0 : ∀ H1, Ex H H1 → Pv 0 σ H1)
    (hs : ∀ i σ' H', i < n → Pv i σ' H' → tu { D with nx := Pv (i + 1), ct := Pv (i + 1), bk := D.nx } (σ'.set j (some (vi (n - 1 - i)))) H') (hd : ∀ σ' H', Pv n σ' H' → D.nx σ' H') : tFor (iRevR (tRg1 te)) (gName j) tu D σ H := by
  refine h H (Ex.refl H) _ fun H1 e => ⟨(n : Int), rfl, by omega, by omega, by omega, by omega, ?_⟩
  have z : ((n : Int) - 0).toNat = n := by omega
  rw [z]
  refine for_it (walk_rangeC (lo := (0 : Int) + (n : Int) - 1) (c := -1) (n := n)) Pv (h0 H1 e) (fun _ _ _ _ _ => trivial) (fun i x σ' H2 H3 hi p y => ?_) hd
  obtain ⟨e1, e2⟩ := y
  subst e1
  have e3 : x = vi (n - 1 - i) := by
    rw [e2]
    show V.int _ = V.int (((n - 1 - i : Nat)) : Int)
    congr 1
    omega
  subst e3
  exact hs i σ' H3 hi p
end
/-- something on the stack of term_wrong: a path and a term -/
def PrV (K : PySem.W.Frag) (H : Hp) (sg : List (Str × Nat)) (n : Nat) (u : V) (t : Tm) : Prop := ∃ (a pa : Addr) (v : V) (xs : List V), u = .ref a ∧ SqT K H a [.ref pa, v] ∧ SqT K H pa xs ∧ xs.length + t.sz ≤ n ∧ TmV K H t v ∧ t.ok sg
theorem PrV.et {K : PySem.W.Frag} {H H' : Hp} {sg : List (Str × Nat)} {n : Nat} {u : V} {t : Tm} (e : ET K H H') (h : PrV K H sg n u t) : PrV K H' sg n u t := let ⟨a, pa, v, xs, q, s, p, l, tv, ok⟩ := h; ⟨a, pa, v, xs, q, e _ _ s, e _ _ p, l, tv.et e, ok⟩
theorem paired_last {α β : Type} {R : α → β → Prop} : ∀ {xs : List α} {ys : List β}, Paired R xs ys → ys ≠ [] → ∃ as a bs b, xs = as ++ [a] ∧ ys = bs ++ [b] ∧ Paired R as bs ∧ R a b
  | [], [], .nil, h => absurd rfl h
  | [x], [y], .cons r .nil, _ => ⟨[], x, [], y, rfl, rfl, .nil, r⟩
  | x :: x2 :: xs, y :: y2 :: ys, .cons r t, _ => by
    obtain ⟨as, a, bs, b, e1, e2, p, q⟩ := paired_last t (by simp)
    exact ⟨x :: as, a, y :: bs, b, by rw [e1]; rfl, by rw [e2]; rfl, .cons r p, q⟩
theorem oks_get {sg : List (Str × Nat)} : ∀ {ts : List Tm} {i : Nat} {t : Tm}, oks sg ts → ts[i]? = some t → t.ok sg
  | [], i, t, _, e => by
    rw [List.getElem?_nil] at e
    cases e
  | s :: ts, i, t, h, e => by
    rw [oks] at h
    match i, e with
    | 0, e =>
      cases Option.some.inj (show some s = some t from e)
      exact h.1
    | i + 1, e => exact oks_get h.2 (show ts[i]? = some t from e)
theorem TmsV.put {K : PySem.W.Frag} {H : Hp} {ts : List Tm} {us : List V} {i : Nat} (h : TmsV K H ts us) (hi : i < ts.length) : ∃ u, us[i]? = some u ∧ TmV K H ts[i] u := by
  have lu := h.len
  have e : us[i]? = some us[i] := List.getElem?_eq_getElem (by omega)
  obtain ⟨t, ht, tv⟩ := h.get e
  rw [List.getElem?_eq_getElem hi] at ht
  cases Option.some.inj ht
  exact ⟨_, e, tv⟩
section
variable {P : Program} {w : World} {K : PySem.W.Frag} {mg : Str → Option Value} {base : Heap}
def sp_wrong_in_term (K : PySem.W.Frag) : Sp := spX (fun (p : List (Str × Nat) × Tm) vs H => (∃ d v, vs = [.ref d, v] ∧ Plc H d p.1 ∧ TmV K H p.2 v) ∧ p.2.ok p.1 ∧ p.2.sz ≤ 60) (fun _ v _ => v = .non)
theorem c_wrong_in_term (T : Txt mg) (D : Df K mg "wrong_in_term" s_wrong_in_term ["places", "thing"]) (c_has_term_form : Cl P w K mg base 1 "has_term_form" (sp_has_term_form K)) : Cl P w K mg base 2 "wrong_in_term" (sp_wrong_in_term K) := by
  refine cl_of (k := 1) D sc_wrong_in_term (fun vs H Q E h => ?_) (fun f cdv A outer s H vs Q E hr h => ?_)
  · obtain ⟨p, ⟨⟨u, v, rfl, _⟩, _⟩, _⟩ := h
    rfl
  · obtain ⟨⟨sg, t⟩, ⟨⟨d, v, rfl, plc, tv⟩, ok, small⟩, q⟩ := h
    refine ⟨_, (pss_cons (ps_set (i := 2) sc_wrong_in_term.nd rfl (.inl rfl) pe_int)
      (pss_cons (ps_set (i := 3) sc_wrong_in_term.nd rfl (.inl rfl) (pe_lst (pa_cons (pe_tup (pa_cons (pe_tup pa_nil) (pa_cons (pv 1) pa_nil))) pa_nil)))
      (pss_cons (ps_while PassesOwn.never (pt_truth (pv 3) (by intro _; rfl))
        (pss_cons (ps_asg (pe_bm0 PySem.F.plainAttrs_list PySem.F.slot_list_pop PySem.F.type_list_pop mt_pop (pv 3)) (pg_tup (by rfl) (pgs_cons (pg_name (i := 4) sc_wrong_in_term.nd rfl (.inl rfl)) (pgs_cons (pg_name (i := 5) sc_wrong_in_term.nd rfl (.inl rfl)) pgs_nil))))
        (pss_cons (ps_if (pt_not (pt_val (pe_cl c_has_term_form hr (by first | decide | omega) (by rfl) (pa_cons (pv 0) (pa_cons (pv 5) pa_nil)))))
          (pss_one (ps_ret (pe_tup (pa_cons pe_str (pa_cons (pv 4) pa_nil)))))
          pss_nil)
        (pss_cons (ps_aug (i := 2) sc_wrong_in_term.nd rfl (.inl rfl) pe_int ip_add)
        (pss_one (ps_if (pt_cmpR op_eq (pe_ix ix_tup (pv 5) pe_int (fun _ _ => rfl)) pe_str (nomark _))
          (pss_one (ps_for PassesOwn.never (by rfl) (pi_revR (by rfl) T.z_reversed (prg_1 (by rfl) T.z_range (pe_callB call_len_seq (by rfl) T.z_len PySem.boot_len (pa_cons (pe_ix ix_tup (pv 5) pe_int (fun _ _ => rfl)) pa_nil)))) (pg_name (i := 6) sc_wrong_in_term.nd rfl (.inl rfl))
            (pss_one (ps_expr (pe_bm PySem.F.plainAttrs_list PySem.F.slot_list_append PySem.F.type_list_append mt_append (pv 3) (pa_cons (pe_tup (pa_cons (pe_op op_catA (pv 4) (pe_tup (pa_cons (pv 6) pa_nil))) (pa_cons (pe_ix ix_tup (pe_ix ix_tup (pv 5) pe_int (fun _ _ => rfl)) (pv 6) (fun _ _ => rfl)) pa_nil))) pa_nil))))))
          pss_nil))))))
      (pss_one (ps_ret (pe_ifExp (pt_cmpR op_gt (pv 2) (pe_gi (by rfl) T.c_MOST_PARTS) (nomark _)) (pe_tup (pa_cons pe_str pa_nil)) pe_non)))))), ?_⟩
    replace plc : Plc H d sg := plc
    replace tv : TmV K H t v := tv
    replace ok : t.ok sg := ok
    replace small : t.sz ≤ 60 := small
    have x3 : Ex H H := Ex.refl H
    refine q_asg (v := vi 0) ev_c fun H4 e4 => ?_
    refine do_set (do_lst (do_cons (do_tup (do_cons (do_tup (do_nil ⟨Nat.zero_le _, fun p1 n1 => do_cons (do_ev (ev_var rfl) fun H5 e5 => do_nil ⟨by show 2 ≤ sizeLine; decide, fun p2 n2 => do_nil ⟨by show 1 ≤ sizeLine; decide, fun td ntd => ?_⟩⟩)⟩))))))
    have e45 : Ex H4 H5 := (Ex.new n1).trans e5
    have x6 : Ex H (upd H5 p2 (.tup [.ref p1, v])) := (e4.trans e45).trans (Ex.new n2)
    have s2 : SqT K (upd H5 p2 (.tup [.ref p1, v])) p2 [.ref p1, v] := st_of upd_same
    have s1 : SqT K (upd H5 p2 (.tup [.ref p1, v])) p1 [] := st_of (Ex.new n2 _ _ (e5 _ _ upd_same))
    generalize upd H5 p2 (.tup [.ref p1, v]) = H6 at *
    have nt3 : H td = none := fresh_back x6 ntd
    have tv6 : TmV K H6 t v := tv.et (Dw.Ex.et (x3.trans x6))
    have et7 : ET K H6 (upd H6 td (.lst [.ref p2])) := Dw.Ex.et (Ex.new ntd)
    show tSeq _ _ _ [some (.ref d), some v, some (vi 0), some (.ref td), none, none, none] (upd H6 td (.lst [.ref p2]))
    refine q_while (fun k σ H' => Ex H H' ∧ ∃ (stk : List Tm) (us : List V) (n : Nat) (y5 y6 y7 : Option V), k = szs stk ∧ H' td = some (.lst us) ∧ Paired (PrV K H' sg t.sz) us stk ∧ n + szs stk = t.sz ∧ σ = [some (.ref d), some v, some (vi n), some (.ref td), y5, y6, y7]) (szs [t])
      ⟨x6.trans (Ex.new ntd), [t], [.ref p2], 0, none, none, none, rfl, upd_same, .cons (PrV.et et7 ⟨p2, p1, v, [], rfl, s2, s1, by rw [List.length_nil]; omega, tv6, ok⟩) .nil, by rw [szs, szs]; omega, rfl⟩ (fun k σ H7 hW => ?_)
    obtain ⟨e7, stk, us, n, y5, y6, y7, ek, hus, prs, tot, hσ⟩ := hW
    subst hσ
    subst ek
    have lu := paired_len prs
    have ls := len_szs stk
    refine ⟨_, et_truL (K := K) (ev_var rfl) (sq_of hus), fun hb H8 e8 => ?_, fun hb H8 e8 => ?_⟩
    · have ne : stk ≠ [] := fun z => by
        subst z
        cases prs
        cases hb
      obtain ⟨ws, u', b, t', rfl, rfl, pb, pt⟩ := paired_last prs ne
      rw [szs_app, szs, szs] at tot
      refine ⟨fun σ' H' => ∃ k', k' < szs (b ++ [t']) ∧ Ex H H' ∧ ∃ (stk : List Tm) (us : List V) (n : Nat) (y5 y6 y7 : Option V), k' = szs stk ∧ H' td = some (.lst us) ∧ Paired (PrV K H' sg t.sz) us stk ∧ n + szs stk = t.sz ∧ σ' = [some (.ref d), some v, some (vi n), some (.ref td), y5, y6, y7], fun σ2 H5 ⟨k', lt, r⟩ => ⟨k', lt, r⟩, ?_⟩
      refine do_setG (do_pop (e8 _ _ hus) (ev_var rfl) fun H9 e9 => ?_)
      have e79 := e8.trans e9
      have et10 : ET K H7 (upd H9 td (.lst ws)) := ET.trans (Dw.Ex.et e79) (ET.refl.upd (e79 _ _ hus))
      have x10 : Ex H (upd H9 td (.lst ws)) := (e7.trans e79).mut nt3
      have td10 : (upd H9 td (.lst ws)) td = some (.lst ws) := upd_same
      have pb10 := paired_imp (fun _ _ z => PrV.et et10 z) pb
      have pt10 := PrV.et et10 pt
      generalize upd H9 td (.lst ws) = H10 at *
      obtain ⟨aa, pa, vv, xs, rfl, sa, sp, lx, tvv, okt⟩ := pt10
      refine ⟨aa, _, rfl, sa, rfl, _, _, rfl, _, _, rfl, rfl, ?_⟩
      show tSeq _ _ _ [some (.ref d), some v, some (vi n), some (.ref td), some (.ref pa), some vv, y7] H10
      obtain ⟨kvs, hd, val⟩ := id plc
      refine q_when (b := false) (et_is (et_not (et_val (ev_callV (v := .bl true) (sg, t') (ea_cons (ev_var rfl) (ea_cons (ev_var rfl) ea_nil)) (fun H11 e11 => ⟨⟨_, _, rfl, ⟨kvs, (x10.trans e11) _ _ hd, val⟩, tvv.et (Dw.Ex.et e11)⟩, okt⟩) (fun _ _ p => p)))) rfl) (fun hb => by cases hb) (fun _ H11 e11 => ?_)
      refine q_aug (a := (n : Int)) (b := 1) rfl ev_c fun H12 e12 => ?_
      have en : V.int ((n : Int) + 1) = vi (n + 1) := by
        show _ = V.int (((n + 1 : Nat)) : Int)
        rw [Int.natCast_add]
        rfl
      show tIfS _ _ _ _ [some (.ref d), some v, some (V.int ((n : Int) + 1)), some (.ref td), some (.ref pa), some vv, y7] H12
      rw [en]
      have e1012 := e11.trans e12
      have x12 : Ex H H12 := x10.trans e1012
      have td12 : H12 td = some (.lst ws) := e1012 _ _ td10
      have pb12 := paired_imp (fun _ _ z => PrV.et (Dw.Ex.et e1012) z) pb10
      have tv12 := tvv.et (Dw.Ex.et e1012)
      have sp12 := ex_t e1012 sp
      have lw := paired_len pb12
      have lb := len_szs b
      cases t' with
      | var x =>
        rw [TmV] at tv12
        obtain ⟨c, rfl, hc⟩ := tv12
        refine s_when (b := false) (et_is (et_test (ev_op (ev_op (ev_var rfl) ev_c (rv_ixT (K := K) hc (atI_vi (k := 0) rfl))) ev_c (rv_eq rfl))) (by decide)) (fun hb => by cases hb) (fun _ H13 e13 => ?_)
        rw [Tm.sz] at tot
        exact ⟨szs b, by rw [szs_app, szs, Tm.sz]; omega, x12.trans e13, b, ws, n + 1, _, _, _, rfl, e13 _ _ td12, paired_imp (fun _ _ z => PrV.et (Dw.Ex.et e13) z) pb12, by omega, rfl⟩
      | deed g ts =>
        rw [TmV] at tv12
        rw [Tm.ok] at okt
        obtain ⟨c, cc, vs, rfl, hc, hcc, tvs⟩ := tv12
        have lvs := tvs.len
        have lts := len_szs ts
        rw [Tm.sz] at tot lx
        refine s_when (b := true) (et_is (et_test (ev_op (ev_op (ev_var rfl) ev_c (rv_ixT (K := K) hc (atI_vi (k := 0) rfl))) ev_c (rv_eq rfl))) (by decide)) (fun _ H13 e13 => ?_) (fun hb => by cases hb)
        have hc13 := ex_t e13 hc
        have hcc13 := ex_t e13 hcc
        refine s_forRev (n := ts.length) (ev_is (ev_lenT (K := K) (ev_op (ev_var rfl) ev_c (rv_ixT (K := K) hc13 (atI_vi (k := 2) rfl))) hcc13) (by rw [lvs])) (by omega) (fun i σ' H' => Ex H H' ∧ ET K H13 H' ∧ ∃ (us : List V) (y7 : Option V), H' td = some (.lst us) ∧ Paired (PrV K H' sg t.sz) us (b ++ ts.reverse.take i) ∧ σ' = [some (.ref d), some v, some (vi (n + 1)), some (.ref td), some (.ref pa), some (.ref c), y7])
          (fun H14 e14 => ⟨(x12.trans e13).trans e14, Dw.Ex.et e14, ws, _, (e13.trans e14) _ _ td12, by rw [List.take_zero, List.append_nil]; exact paired_imp (fun _ _ z => PrV.et (Dw.Ex.et (e13.trans e14)) z) pb12, rfl⟩) (fun i σ' H14 hi hP => ?_) (fun σ' H14 hP => ?_)
        · obtain ⟨x14, et14, us', y7', td14, p14, hσ⟩ := hP
          subst hσ
          have ln := paired_len p14
          have kl : ts.length - 1 - i < ts.length := by omega
          have e5 : List.length (ts.reverse.take i) ≤ ts.length := by rw [List.length_take, List.length_reverse]; omega
          rw [List.length_append] at ln
          obtain ⟨cv, hcv, tcv⟩ := (tvs.et (ET.trans (Dw.Ex.et e13) et14)).put kl
          have hc14 := et14 _ _ hc13
          have hcc14 := et14 _ _ hcc13
          have sp14 := et14 _ _ (ex_t e13 sp12)
          have szc : (ts[ts.length - 1 - i]).sz ≤ szs ts := sz_le (List.getElem?_eq_getElem kl)
          show tDrop _ _ [some (.ref d), some v, some (vi (n + 1)), some (.ref td), some (.ref pa), some (.ref c), some (vi (ts.length - 1 - i))] H14
          refine do_app td14 (ev_var rfl) fun H15 e15 => do_tup (do_cons (do_op (do_ev (ev_var rfl) fun H16 e16 => do_tup (do_cons (do_ev (ev_var rfl) fun H17 e17 => do_nil ⟨by show 1 ≤ sizeLine; decide, fun q1 nq1 => ?_⟩)))))
          have e1417 := (e15.trans e16).trans e17
          have x18 : Ex H14 (upd H17 q1 (.tup [vi (ts.length - 1 - i)])) := e1417.trans (Ex.new nq1)
          have sq1 : SqT K (upd H17 q1 (.tup [vi (ts.length - 1 - i)])) q1 [vi (ts.length - 1 - i)] := st_of upd_same
          generalize upd H17 q1 (.tup [vi (ts.length - 1 - i)]) = H18 at *
          have go : ∀ (H19 : Hp) (pv : Addr) (zs : List V), Ex H18 H19 → SqT K H19 pv zs → zs.length = xs.length + 1 → tCons (tOp (rIxT K) (tOp (rIxT K) (tVar 5) (tC (.int 2))) (tVar 6)) tNil [some (.ref d), some v, some (vi (n + 1)), some (.ref td), some (.ref pa), some (.ref c), some (vi (ts.length - 1 - i))] H19 (fun rest H20 => (V.ref pv :: rest).length ≤ sizeLine ∧ ∀ p, H20 p = none → (∃ a1 ys y, V.ref td = .ref a1 ∧ [V.ref p] = [y] ∧ (upd H20 p (.tup (V.ref pv :: rest))) a1 = some (.lst ys) ∧ ys.length < sizeLine ∧ (Ex H (upd (upd H20 p (.tup (V.ref pv :: rest))) a1 (.lst (ys ++ [y]))) ∧ ET K H13 (upd (upd H20 p (.tup (V.ref pv :: rest))) a1 (.lst (ys ++ [y]))) ∧ ∃ (us : List V) (y7 : Option V), (upd (upd H20 p (.tup (V.ref pv :: rest))) a1 (.lst (ys ++ [y]))) td = some (.lst us) ∧ Paired (PrV K (upd (upd H20 p (.tup (V.ref pv :: rest))) a1 (.lst (ys ++ [y]))) sg t.sz) us (b ++ ts.reverse.take (i + 1)) ∧ [some (.ref d), some v, some (vi (n + 1)), some (.ref td), some (.ref pa), some (.ref c), some (vi (ts.length - 1 - i))] = [some (.ref d), some v, some (vi (n + 1)), some (.ref td), some (.ref pa), some (.ref c), y7]))) := by
            intro H19 pv zs e19 sz19 lz
            have e1419 := x18.trans e19
            refine do_cons (do_ev (ev_op (ev_op (ev_var rfl) ev_c (rv_ixT (K := K) (ex_t e1419 hc14) (atI_vi (k := 2) rfl))) (ev_var rfl) (rv_ixT (K := K) (ex_t e1419 hcc14) (atI_vi (k := ts.length - 1 - i) hcv))) fun H20 e20 => do_nil ⟨by show 2 ≤ sizeLine; decide, fun p np => ?_⟩)
            have x21 : Ex H14 (upd H20 p (.tup [.ref pv, cv])) := (e1419.trans e20).trans (Ex.new np)
            have td21 : (upd H20 p (.tup [.ref pv, cv])) td = some (.lst us') := x21 _ _ td14
            refine ⟨td, us', .ref p, rfl, rfl, td21, sz_lt (by omega), (x14.trans x21).mut nt3, ET.trans et14 (ET.trans (Dw.Ex.et x21) (ET.refl.upd td21)), us' ++ [.ref p], _, upd_same, ?_, rfl⟩
            have et22 : ET K H14 (upd (upd H20 p (.tup [.ref pv, cv])) td (.lst (us' ++ [.ref p]))) := ET.trans (Dw.Ex.et x21) (ET.refl.upd td21)
            have et23 : ET K (upd H20 p (.tup [.ref pv, cv])) (upd (upd H20 p (.tup [.ref pv, cv])) td (.lst (us' ++ [.ref p]))) := ET.refl.upd td21
            have hr2 : ts.reverse[i]? = some ts[ts.length - 1 - i] := by
              rw [List.getElem?_reverse (by omega), List.getElem?_eq_getElem kl]
            rw [List.take_add_one, hr2, ← List.append_assoc]
            refine paired_snoc ⟨p, pv, cv, zs, rfl, et23 _ _ (st_of upd_same), et23 _ _ (ex_t (e20.trans (Ex.new np)) sz19), by omega, tcv.et et22, oks_get okt.2 (List.getElem?_eq_getElem kl)⟩ (paired_imp (fun _ _ z => PrV.et et22 z) p14)
          refine ⟨pa, q1, xs, [vi (ts.length - 1 - i)], rfl, rfl, ex_t x18 sp14, sq1, sz_of (by rw [List.length_singleton]; omega), fun e => ?_, fun _ z => (by cases z), fun ne2 _ p3 np3 => ?_⟩
          · subst e
            exact go H18 q1 _ (Ex.refl _) sq1 rfl
          · exact go _ p3 _ (Ex.new np3) (st_of upd_same) (by rw [List.length_append]; rfl)
        · obtain ⟨x14, et14, us', y7', td14, p14, hσ⟩ := hP
          subst hσ
          have full : ts.reverse.take ts.length = ts.reverse := List.take_of_length_le (by rw [List.length_reverse]; exact Nat.le_refl _)
          rw [full] at p14
          exact ⟨szs (b ++ ts.reverse), by rw [szs_app, szs_app, szs_rev, szs, szs, Tm.sz]; omega, x14, b ++ ts.reverse, us', n + 1, _, _, _, rfl, td14, p14, by rw [szs_app, szs_rev]; omega, rfl⟩
    · have no : stk = [] := by
        cases us with
        | nil => exact List.length_eq_zero_iff.mp lu.symm
        | cons _ _ => cases hb
      subst no
      rw [szs] at tot
      have le : n ≤ 60 := by omega
      exact s_ret (v := .non) (ev_if (b := false) (et_is (et_test (ev_op (ev_var rfl) ev_c rv_I0)) (decide_eq_false (by show ¬ ((n : Int) > 60); omega))) (fun z => by cases z) (fun _ => ev_c)) fun H9 e9 => q _ H9 (x3.trans (e7.trans (e8.trans e9))) rfl
def sp_term_wrong (K : PySem.W.Frag) : Sp := spX (fun (p : List (Str × Nat) × Tm) vs H => (∃ u v, vs = [u, v] ∧ FSig K H u p.1 ∧ TmV K H p.2 v) ∧ SigOk p.1 ∧ p.2.ok p.1 ∧ p.2.sz ≤ 60) (fun _ v _ => v = .non)
theorem c_term_wrong (T : Txt mg) (D : Df K mg "term_wrong" s_term_wrong ["signature", "thing"]) (c_need_signature : Cl P w K mg base 5 "need_signature" (sp_need_signature K)) (c_wrong_in_term : Cl P w K mg base 2 "wrong_in_term" (sp_wrong_in_term K)) : Cl P w K mg base 6 "term_wrong" (sp_term_wrong K) := by
  refine cl_of (k := 5) D sc_term_wrong (fun vs H Q E h => ?_) (fun f cdv A outer s H vs Q E hr h => ?_)
  · obtain ⟨p, ⟨⟨u, v, rfl, _⟩, _⟩, _⟩ := h
    rfl
  · obtain ⟨⟨sg, t⟩, ⟨⟨u, v, rfl, hF, tv⟩, sok, ok, small⟩, q⟩ := h
    refine ⟨_, (pss_cons (ps_expr (pe_cl c_need_signature hr (by first | decide | omega) (by rfl) (pa_cons (pv 0) pa_nil)))
      (pss_one (ps_ret (pe_cl c_wrong_in_term hr (by first | decide | omega) (by rfl) (pa_cons (pe_callTy (call_dictT rfl) (by rfl) T.z_dict (by decide +kernel) (pa_cons (pv 0) pa_nil)) (pa_cons (pv 1) pa_nil)))))), ?_⟩
    replace hF : FSig K H u sg := hF
    replace tv : TmV K H t v := tv
    replace sok : SigOk sg := sok
    replace ok : t.ok sg := ok
    replace small : t.sz ≤ 60 := small
    refine q_drop (ev_callV (v := .non) sg (ea_cons (ev_var rfl) ea_nil) (fun H1 e1 => ⟨⟨_, rfl, (hF.ex e1).sig⟩, sok⟩) (fun _ _ p => p)) fun H1 e1 => ?_
    obtain ⟨a, o, ps, rfl, ha, od, pr⟩ := hF.ex e1
    refine do_ret (do_cons (do_cb (do_cons (do_ev (ev_var rfl) fun H2 e2 => ?_))))
    refine ⟨a, o, ps, kvsOf sg, rfl, e2 _ _ ha, od, paired_mapR (f := fun d : Str × Nat => ((Sum.inr d.1 : Key), vi d.2)) (fun _ _ z => ex_t e2 z) pr, fun d nd => ?_⟩
    have x3 : Ex H (upd H2 d (.dK (mergeK [] (kvsOf sg)))) := (e1.trans e2).trans (Ex.new nd)
    have plc : Plc (upd H2 d (.dK (mergeK [] (kvsOf sg)))) d sg := ⟨_, upd_same, fun p hp => val_merge sg [] p.1 p.2 sok.nd (.inl hp)⟩
    generalize upd H2 d (.dK (mergeK [] (kvsOf sg))) = H3 at *
    refine do_cons (do_ev (ev_var rfl) fun H4 e4 => do_nil ?_)
    obtain ⟨kvs, hd, val⟩ := id plc
    exact ⟨(sg, t), ⟨⟨d, v, rfl, ⟨kvs, e4 _ _ hd, val⟩, tv.et (Dw.Ex.et (x3.trans e4))⟩, ok, small⟩, fun v H' e p => q v H' (x3.trans (e4.trans e)) p⟩
end
end K02
end
section
namespace K02
open PySem PySem.Spec PyProof.Rows L2 Evl RZ Dw M20
/-! ### worths -/
def plc (n : Nat) (ns : List Nat) : Nat := ns.foldl (fun acc k => acc * n + k) 0
def tbOf : List (Str × Nat) → List (List Nat) → Str → List Nat
  | d :: sg, tb :: tbs, f => if d.1 = f then tb else tbOf sg tbs f
  | _, _, _ => []
mutual
def Tm.wt (n : Nat) (sg : List (Str × Nat)) (tbs : List (List Nat)) (env : Str → Nat) : Tm → Nat
  | .var x => env x
  | .deed f ts => g (tbOf sg tbs f) (plc n (wts n sg tbs env ts))
def wts (n : Nat) (sg : List (Str × Nat)) (tbs : List (List Nat)) (env : Str → Nat) : List Tm → List Nat
  | [] => []
  | t :: ts => t.wt n sg tbs env :: wts n sg tbs env ts
end
section
variable {σ : L2.St} {H : Hp} {ta tb te : TE}
end
section
variable {P : Program} {w : World} {K : PySem.W.Frag} {mg : Str → Option Value} {base : Heap}
end
end K02
end
section
namespace K02
open PySem PySem.Spec PyProof.Rows L2 Evl RZ Dw M20
/-- what worth_under is handed -/
structure WArg where
  sg : List (Str × Nat)
  n : Nat
  tbs : List (List Nat)
  t : Tm
  env : Str → Nat
def WArg.wt (p : WArg) : Nat := p.t.wt p.n p.sg p.tbs p.env
/-- a dict that tells the worths of some letters -/
def Env (H : Hp) (dd : Addr) (ls : List Str) (env : Str → Nat) : Prop := ∃ kvs : List (Key × V), H dd = some (.dK kvs) ∧ ∀ x ∈ ls, valV kvs (.inr x) = some (vi (env x))
section
variable {P : Program} {w : World} {K : PySem.W.Frag} {mg : Str → Option Value} {base : Heap}
end
end K02
end
section
namespace K02
open PySem PySem.Spec PyProof.Rows L2 Evl RZ Dw M20
/-- the worths of letters in row r of all -/
def envR (n : Nat) (ls : List Str) (r : Nat) (x : Str) : Nat := r / n ^ (ls.length - 1 - ls.idxOf x) % n
structure CArg where
  sg : List (Str × Nat)
  n : Nat
  tbs : List (List Nat)
  t : Tm
  ls : List Str
def CArg.at (p : CArg) (r : Nat) : Nat := p.t.wt p.n p.sg p.tbs (envR p.n p.ls r)
structure COk (d : Nat) (p : CArg) : Prop where
  so : SigOk p.sg
  mo : MdlOk p.sg p.n p.tbs
  ok : p.t.ok p.sg
  has : ∀ x ∈ p.t.ls, x ∈ p.ls
  l4 : p.ls.length ≤ 4
  few : p.t.sz ≤ d
section
variable {P : Program} {w : World} {K : PySem.W.Frag} {mg : Str → Option Value} {base : Heap}
end
end K02
end
section
namespace K02
open PySem PySem.Spec PyProof.Rows L2 Evl RZ Dw M20
section
variable {P : Program} {w : World} {K : PySem.W.Frag} {mg : Str → Option Value} {base : Heap}
end
end K02
end
section
namespace K02
open PySem PySem.Spec PyProof.Rows L2 Evl RZ Dw M20
/-! ### the letters of a term, in order -/
def inner (t : Tm) : List Str := vars.filter fun x => decide (x ∈ t.ls)
abbrev up (a b : Str) : Prop := vars.idxOf a ≤ vars.idxOf b
theorem vars_nd : vars.Nodup := by decide +kernel
theorem inner_nd (t : Tm) : (inner t).Nodup := List.Pairwise.filter _ vars_nd
theorem mem_inner {t : Tm} (sub : ∀ x ∈ t.ls, x ∈ vars) {x : Str} : x ∈ inner t ↔ x ∈ t.ls := by
  unfold inner
  rw [List.mem_filter]
  constructor
  · intro h
    exact of_decide_eq_true h.2
  · intro h
    exact ⟨sub x h, decide_eq_true h⟩
mutual
theorem ls_vars {sg : List (Str × Nat)} : ∀ (t : Tm), t.ok sg → ∀ x ∈ t.ls, x ∈ vars
  | .var y, h, x, hx => by
    rw [Tm.ok] at h
    rw [Tm.ls] at hx
    rw [List.mem_singleton.mp hx]
    exact h
  | .deed f ts, h, x, hx => by
    rw [Tm.ok] at h
    rw [Tm.ls] at hx
    exact lss_vars ts h.2 x hx
theorem lss_vars {sg : List (Str × Nat)} : ∀ (ts : List Tm), oks sg ts → ∀ x ∈ lss ts, x ∈ vars
  | [], _, x, hx => by
    rw [lss] at hx
    cases hx
  | t :: ts, h, x, hx => by
    rw [oks] at h
    rw [lss] at hx
    rcases List.mem_append.mp hx with e | e
    · exact ls_vars t h.1 x e
    · exact lss_vars ts h.2 x e
end
/-! ### a dict of letters and worths -/
def envN (ls : List Str) (ns : List Nat) (x : Str) : Nat := g ns (ls.idxOf x)
section
variable {K : PySem.W.Frag} {σ : L2.St} {H : Hp} {ta tb te : TE}
end
theorem dps_strs {K : PySem.W.Frag} {H : Hp} : ∀ zs : List Str, DpAll K H (zs.map V.str) (zs.map PyData.str)
  | [] => .nil
  | z :: zs => .cons (.str z) (dps_strs zs)
theorem vars_cps : ∀ z ∈ vars, (∀ c ∈ z.cps.toList, c < 0x110000) ∧ z.cps.size ≤ 100 := by decide +kernel
theorem gd_strs {zs : List Str} (h : ∀ z ∈ zs, z ∈ vars) (l : zs.length ≤ 6) : Gd 1 606 (.list (zs.map PyData.str)) := by
  refine gd_lst (k := 0) (W := 100) (L := 6) (fun d hd => ?_) (by rw [List.length_map]; exact l)
  obtain ⟨z, hz, e⟩ := List.mem_map.mp hd
  subst e
  exact gd_str (vars_cps z (h z hz)).1 (vars_cps z (h z hz)).2
/-- what worth_by is handed -/
structure BArg where
  sg : List (Str × Nat)
  n : Nat
  tbs : List (List Nat)
  t : Tm
  ns : List Nat
def BArg.wt (p : BArg) : Nat := p.t.wt p.n p.sg p.tbs (envN (inner p.t) p.ns)
section
variable {P : Program} {w : World} {K : PySem.W.Frag} {mg : Str → Option Value} {base : Heap} {va : Addr}
end
end K02
end
section
namespace K02
open PySem PySem.Spec PyProof.Rows L2 Evl RZ Dw M20
theorem big3600 : Builtin.Int.intTooBig (((Builtin.Int.intBits (10 ^ 60) : Nat) : Int) * 60) = false := by decide +kernel
theorem pow3600 {X : Cx} : OpR X (binaryOp .Pow) (fun x y H Q => x = .int (10 ^ 60) ∧ y = .int 60 ∧ Q (.int ((10 ^ 60) ^ (60 : Int).toNat)) H) := op_powG (b := 10 ^ 60) (e := 60) (by decide) (by decide) big3600
/-! ### the purse -/
/-- a purse at p, its cells at c, t draws done -/
def Pur (H : Hp) (p c : Addr) (t : Nat) : Prop := H p = some (.lst [.ref c, vi t]) ∧ ∃ cs : List Int, cs ≠ [] ∧ cs.length ≤ 63 ∧ H c = some (.lst (cs.map V.int))
/-- all but these two as it was -/
def Off (H H' : Hp) (p c : Addr) : Prop := ∀ b o, b ≠ p → b ≠ c → H b = some o → H' b = some o
theorem Off.refl {H : Hp} {p c : Addr} : Off H H p c := fun _ _ _ _ h => h
theorem Off.trans {H H1 H2 : Hp} {p c : Addr} (a : Off H H1 p c) (b : Off H1 H2 p c) : Off H H2 p c := fun x o h1 h2 h => b x o h1 h2 (a x o h1 h2 h)
theorem Off.of_ex {H H' : Hp} {p c : Addr} (e : Ex H H') : Off H H' p c := fun b o _ _ h => e b o h
theorem Pur.ex {H H' : Hp} {p c : Addr} {t : Nat} (e : Ex H H') (h : Pur H p c t) : Pur H' p c t := ⟨e _ _ h.1, let ⟨cs, h1, h2, h3⟩ := h.2; ⟨cs, h1, h2, e _ _ h3⟩⟩
theorem Pur.ne {H : Hp} {p c : Addr} {t : Nat} (h : Pur H p c t) : p ≠ c := fun e => by
  obtain ⟨h1, cs, h2, _, h3⟩ := h
  rw [e, h3] at h1
  have h4 := HO.lst.inj (Option.some.inj h1)
  cases cs with
  | nil => exact h2 rfl
  | cons x r =>
    have h5 := (List.cons.inj h4).1
    cases h5
theorem Pur.at2 {H : Hp} {p c : Addr} {t : Nat} (h : Pur H p c t) : ∃ o, H c = some o := let ⟨_, cs, _, _, h3⟩ := h; ⟨_, h3⟩
/-- a new address is neither -/
theorem Pur.fresh {H : Hp} {p c b : Addr} {t : Nat} (h : Pur H p c t) (n : H b = none) : b ≠ p ∧ b ≠ c := by
  constructor
  · intro e
    rw [e, h.1] at n
    cases n
  · intro e
    obtain ⟨_, cs, _, _, h3⟩ := h
    rw [e, h3] at n
    cases n
theorem Off.et {K : PySem.W.Frag} {H H' : Hp} {p c : Addr} {t : Nat} (o : Off H H' p c) (h : Pur H p c t) : ET K H H' := fun a xs q => by
  have no : ∀ u, H a = some u → (∀ ys, u ≠ .lst ys) → H' a = some u := fun u hu hl => o a u (fun e => by rw [e, h.1] at hu; exact hl _ (Option.some.inj hu).symm) (fun e => by
    obtain ⟨_, cs, _, _, h3⟩ := h
    rw [e, h3] at hu
    exact hl _ (Option.some.inj hu).symm) hu
  rcases q with (q | ⟨ob, q⟩) | q
  · exact .inl (.inl (no _ q fun _ z => by cases z))
  · exact .inl (.inr ⟨ob, no _ q fun _ z => by cases z⟩)
  · exact .inr q
section
variable {P : Program} {w : World} {K : PySem.W.Frag} {mg : Str → Option Value} {base : Heap}
def sp_purse (K : PySem.W.Frag) : Sp := fun vs H Q _ => ∃ (a : Addr) (ns : List Int), vs = [.ref a] ∧ SqL K H a (ns.map V.int) ∧ ns.length ≤ 63 ∧ ∀ p c H', Ex H H' → H p = none → H c = none → Pur H' p c 0 → Q (.ref p) H'
theorem ints_shaped (cs : List Int) : SeqAt.shaped (.list (cs.map PyData.int)) = true := by
  have h1 : ∀ l : List Int, PyData.canLayAll0 (l.map PyData.int) = true := by
    intro l
    induction l with
    | nil => rfl
    | cons x r ih => show (PyData.canLay0 (.int x) && PyData.canLayAll0 (r.map PyData.int)) = true; rw [ih]; rfl
  have h2 : ∀ l : List Int, PyData.depthAll (l.map PyData.int) = 0 := by
    intro l
    induction l with
    | nil => rfl
    | cons x r ih => show max (PyData.depth (.int x)) (PyData.depthAll (r.map PyData.int)) = 0; rw [ih]; rfl
  show (PyData.canLayAll0 (cs.map PyData.int) && decide (PyData.depthAll (cs.map PyData.int) + 1 ≤ 64)) = true
  rw [h1, h2]
  rfl
theorem dp_ints {H : Hp} {a : Addr} {cs : List Int} (h : SqL K H a (cs.map V.int)) : Dp K H (.ref a) (.list (cs.map PyData.int)) := by
  refine .lst h ?_
  have : ∀ l : List Int, DpAll K H (l.map V.int) (l.map PyData.int) := by
    intro l
    induction l with
    | nil => exact .nil
    | cons x r ih => exact .cons (.int x) ih
  exact this cs
theorem c_purse (T : Txt mg) (D : Df K mg "_law_purse" s_purse ["_law_script"]) : Cl P w K mg base 1 "_law_purse" (sp_purse K) := by
  refine cl_of (k := 0) D sc_purse (fun vs H Q E h => ?_) (fun f cdv A outer s H vs Q E hr h => ?_)
  · obtain ⟨a, ns, rfl, _⟩ := h
    rfl
  · obtain ⟨a, ns, rfl, hS, len, q⟩ := h
    refine ⟨_, (pss_cons (ps_setLc (i := 1) (own := [("_law_cell", 2)]) (g := (gName 2)) (by rfl) sc_purse.nd rfl rfl (sw_true rfl rfl rfl (by decide +kernel)) (pi_list (pe_slice sl_list (pv 0) po_none (po_some pe_int))) (blkOk_by (own := [("_law_cell", 2)]) (N := ["_law_script", "_law_cells", "_law_cell"]) (sc := defScope s_purse) (by decide +kernel)) (fun _ _ _ _ _ => (pg_name (i := 2) sc_purse.nd rfl (.inl rfl))) (fun _ _ _ _ _ => pts_nil) (fun _ _ _ _ _ => (pe_op op_mod (pv 2) (pe_op pow3600 (pe_op op_pow pe_int pe_int) pe_int))))
      (pss_cons (ps_if (pt_cmpR (op_eqD hr.units) (pv 1) (pe_lst pa_nil) (nomark _))
        (pss_one (ps_set (i := 1) sc_purse.nd rfl (.inl rfl) (pe_lst (pa_cons pe_int pa_nil))))
        pss_nil)
      (pss_one (ps_ret (pe_lst (pa_cons (pv 1) (pa_cons pe_int pa_nil))))))), ?_⟩
    have cut : cutV (ns.map V.int) none (some 63) = ns.map V.int := by
      unfold cutV
      rw [HT.sIx_none, show HT.sIx (ns.map V.int).length (ns.map V.int).length (some 63) = min 63 (ns.map V.int).length from HT.sIx_nat _ _ 63, Nat.sub_zero, List.drop_zero, List.length_map]
      exact List.take_of_length_le (by rw [List.length_map]; omega)
    have sl : EvL (tSl (rSlL K) (tVar 0) tNoPart (tPart (tC (.int 63)))) [some (.ref a), none, none] H (ns.map V.int) := by
      have := el_sl (σ := [some (.ref a), none, none]) (te := tVar 0) (ev_var rfl) eo_none (eo_some (i := 63) (te := tC (.int 63)) ev_c) hS
      rw [cut] at this
      exact this
    have z := el_lcNL (K := K) (σ := [some (.ref a), none, none]) (H := H) (t := tYes) (te := tOp (rI (fun _ j => 0 < j) fun i j => .int (i % j)) (tVar 2) (tOp (fun x y H Q => x = .int (10 ^ 60) ∧ y = .int 60 ∧ Q (.int ((10 ^ 60) ^ (60 : Int).toNat)) H) (tOp (rI CPow fun i j => .int (i ^ j.toNat)) (tC (.int 10)) (tC (.int 60))) (tC (.int 60)))) (j := 2) (vs := [2]) (fun _ => true) (fun i => .int (ns.getD i 0 % (10 ^ 60) ^ (60 : Int).toNat)) sl (by rw [List.length_map]; omega) (fun _ => rfl) (fun _ _ _ _ _ => et_yes) (fun i x H1 e1 hx _ => by
      rw [List.getElem?_map] at hx
      cases hk : ns[i]? with
      | none =>
        rw [hk] at hx
        cases hx
      | some k =>
        rw [hk] at hx
        cases Option.some.inj hx
        rw [List.getD_eq_getElem?_getD, hk]
        exact ev_op (ev_var rfl) (ev_op (ev_op ev_c ev_c (rv_I ⟨by decide, by decide, by decide⟩)) ev_c (fun H4 _ Q q4 => ⟨rfl, rfl, q4 H4 (Ex.refl _)⟩)) (rv_I (by decide)))
    rw [given_all] at z
    have ez : (List.range (ns.map V.int).length).map (fun i => V.int (ns.getD i 0 % (10 ^ 60) ^ (60 : Int).toNat)) = ((List.range ns.length).map fun i => ns.getD i 0 % (10 ^ 60) ^ (60 : Int).toNat).map V.int := by
      rw [List.length_map, List.map_map]
      rfl
    rw [ez] at z
    obtain ⟨cs, hcs⟩ : ∃ cs : List Int, cs = (List.range ns.length).map fun i => ns.getD i 0 % (10 ^ 60) ^ (60 : Int).toNat := ⟨_, rfl⟩
    have lc : cs.length = ns.length := by rw [hcs, List.length_map, List.length_range]
    rw [← hcs] at z
    clear hcs
    refine q_asgL z fun c H2 nc e2 hc => ?_
    have test : EvT (tTest (tOp (rEqD K) (tVar 1) (tLst tNil))) [some (.ref a), some (.ref c), none] H2 (PyData.eqv (.list (cs.map PyData.int)) (.list [])) := fun H3 e3 Q q3 => ⟨_, rfl, Nat.zero_le _, fun r nr => ⟨_, _, dp_ints (sq_of (by rw [upd_ne (ne_of_none (e3 _ _ hc) nr)]; exact e3 _ _ hc)), .lst (sq_of upd_same) .nil, ints_shaped cs, rfl, _, rfl, q3 _ (Ex.new nr)⟩⟩
    refine q_when test (fun hb H3 e3 => ?_) (fun hb H3 e3 => ?_)
    · refine s_asgL (el_lst (ea_cons ev_c ea_nil) (by decide)) fun d H4 nd e4 hd => ?_
      have e04 : Ex H H4 := (e2.trans e3).trans e4
      have nd0 : H d = none := fresh_back (e2.trans e3) nd
      refine s_retL (el_lst (ea_cons (ev_var rfl) (ea_cons ev_c ea_nil)) (by show 2 ≤ 100000; decide)) fun p H5 np e5 hp => q p d H5 (e04.trans e5) (fresh_back e04 np) nd0 ⟨hp, [0], by simp, by decide, e5 _ _ hd⟩
    · have ne : cs ≠ [] := fun z => by
        subst z
        exact absurd hb (by decide)
      have e03 : Ex H H3 := e2.trans e3
      have l63' : cs.length ≤ 63 := by rw [lc]; exact len
      refine s_retL (el_lst (ea_cons (ev_var rfl) (ea_cons ev_c ea_nil)) (by show 2 ≤ 100000; decide)) fun p H5 np e5 hp => q p c H5 (e03.trans e5) (fresh_back e03 np) nc ⟨hp, cs, ne, l63', e5 _ _ (e3 _ _ hc)⟩
/-- a draw: a number below n, one more done -/
def sp_draw : Sp := fun vs H Q _ => ∃ (p c : Addr) (t n : Nat), vs = [.ref p, vi n] ∧ Pur H p c t ∧ t ≤ 100000 ∧ 1 ≤ n ∧ n ≤ 1000 ∧ ∀ k H', k < n → Off H H' p c → Pur H' p c (t + 1) → Q (vi k) H'
theorem vi_mod {x : Int} {n : Nat} (h : 1 ≤ n) : ∃ k, k < n ∧ V.int (x % (n : Int)) = vi k := by
  have h1 : 0 ≤ x % (n : Int) := Int.emod_nonneg _ (by omega)
  have h2 : x % (n : Int) < n := Int.emod_lt_of_pos _ (by omega)
  exact ⟨(x % (n : Int)).toNat, by omega, by show V.int _ = V.int _; rw [Int.toNat_of_nonneg h1]⟩
theorem c_draw (T : Txt mg) (D : Df K mg "_law_draw" s_draw ["_law_purse_here", "_law_out_of"]) : Cl P w K mg base 1 "_law_draw" sp_draw := by
  refine cl_of (k := 0) D sc_draw (fun vs H Q E h => ?_) (fun f cdv A outer s H vs Q E hr h => ?_)
  · obtain ⟨p, c, t, n, rfl, _⟩ := h
    rfl
  · obtain ⟨p, c, t, n, rfl, pu, t1, n1, n2, q⟩ := h
    refine ⟨_, (pss_cons (ps_asg (pv 0) (pg_unl (by rfl) (pgs_cons (pg_name (i := 2) sc_draw.nd rfl (.inl rfl)) (pgs_cons (pg_name (i := 3) sc_draw.nd rfl (.inl rfl)) pgs_nil))))
      (pss_cons (ps_set (i := 4) sc_draw.nd rfl (.inl rfl) (pe_op op_mod (pv 3) (pe_callB call_len_seq (by rfl) T.z_len PySem.boot_len (pa_cons (pv 2) pa_nil))))
      (pss_cons (ps_set (i := 5) sc_draw.nd rfl (.inl rfl) (pe_ix ix_list (pv 2) (pv 4) (fun _ _ => rfl)))
      (pss_cons (ps_asg (pe_op op_add (pv 3) pe_int) (pg_sub (pv 0) pe_int set_list))
      (pss_cons (ps_if (pt_cmpR op_ge (pv 5) (pe_op op_pow pe_int pe_int) (nomark _))
        (pss_cons (ps_asg (pe_op op_fdiv (pv 5) (pv 1)) (pg_sub (pv 2) (pv 4) set_list))
        (pss_one (ps_ret (pe_op op_mod (pv 5) (pv 1)))))
        pss_nil)
      (pss_cons (ps_set (i := 6) sc_draw.nd rfl (.inl rfl) (pe_op op_mod (pe_op op_add (pe_op op_add (pe_op op_mul (pe_op op_mod (pv 5) pe_int) pe_int) (pe_op op_mul (pe_op op_mul (pv 3) (pv 3)) pe_int)) pe_int) pe_int))
      (pss_cons (ps_set (i := 6) sc_draw.nd rfl (.inl rfl) (pe_op op_mod (pe_op op_mul (pv 6) (pv 6)) pe_int))
      (pss_cons (ps_set (i := 6) sc_draw.nd rfl (.inl rfl) (pe_op op_mod (pe_op op_mul (pv 6) (pv 6)) pe_int))
      (pss_cons (ps_if (pt_cmpR op_gt (pv 1) (pe_op op_pow pe_int pe_int) (nomark _))
        (pss_cons (ps_set (i := 7) sc_draw.nd rfl (.inl rfl) (pe_op op_mod (pe_op op_add (pe_op op_add (pe_op op_mul (pv 6) pe_int) (pe_op op_mul (pv 3) pe_int)) pe_int) pe_int))
        (pss_one (ps_set (i := 6) sc_draw.nd rfl (.inl rfl) (pe_op op_mul (pv 6) (pe_op op_add (pe_op op_mul (pe_op op_mul (pv 7) (pv 7)) (pv 7)) pe_int)))))
        pss_nil)
      (pss_one (ps_ret (pe_op op_mod (pv 6) (pv 1))))))))))))), ?_⟩
    have ne := pu.ne
    obtain ⟨hp, cs, cne, c63, hc⟩ := id pu
    -- cells, turn = purse
    refine ⟨.ref p, rfl, p, _, rfl, sq_of hp, rfl, _, _, rfl, _, _, rfl, rfl, ?_⟩
    have cl : 0 < cs.length := List.length_pos_iff.mpr cne
    have lenE : Ev (tCB (rLenS K) (tCons (tVar 2) tNil)) [some (.ref p), some (vi n), some (.ref c), some (vi t), none, none, none, none] H (.int (cs.length : Int)) := by
      have := ev_len (K := K) (σ := [some (.ref p), some (vi n), some (.ref c), some (vi t), none, none, none, none]) (ta := tVar 2) (ev_var rfl) (sq_of hc)
      rw [List.length_map] at this
      exact this
    refine q_asg (v := vi (t % cs.length)) (ev_is (ev_op (ev_var rfl) lenE (rv_I (by show (0 : Int) < (cs.length : Int); omega))) (by show V.int ((t : Int) % (cs.length : Int)) = V.int ((t % cs.length : Nat) : Int); rw [Int.natCast_emod])) fun H1 e1 => ?_
    have ai : t % cs.length < cs.length := Nat.mod_lt _ cl
    refine q_asg (v := .int cs[t % cs.length]) (ev_op (ev_var rfl) (ev_var rfl) (rv_ixL (ex_l e1 (sq_of hc)) (atI_vi (by rw [List.getElem?_map, List.getElem?_eq_getElem ai]; rfl)))) fun H2 e2 => ?_
    have e02 := e1.trans e2
    -- purse[1] = turn + 1
    refine q_setL (j := 1) (e02 _ _ hp) (ev_op (ev_var rfl) ev_c rv_I0) (ev_var rfl) ev_c (by show 1 < 2; decide) fun H3 e3 => ?_
    have e03 := e02.trans e3
    have hp4 : (upd H3 p (.lst [.ref c, vi (t + 1)])) p = some (.lst [.ref c, vi (t + 1)]) := upd_same
    have hc4 : (upd H3 p (.lst [.ref c, vi (t + 1)])) c = some (.lst (cs.map V.int)) := by rw [upd_ne (Ne.symm ne)]; exact e03 _ _ hc
    have off4 : Off H (upd H3 p (.lst [.ref c, vi (t + 1)])) p c := fun b o b1 b2 hb => by rw [upd_ne b1]; exact e03 _ _ hb
    have st : (upd H3 p (.lst (List.set [V.ref c, vi t] 1 (V.int ((t : Int) + 1))))) = upd H3 p (.lst [.ref c, vi (t + 1)]) := by
      show upd H3 p (.lst [.ref c, .int ((t : Int) + 1)]) = upd H3 p (.lst [.ref c, .int ((t + 1 : Nat) : Int)])
      rw [Int.natCast_add]
      rfl
    rw [st]
    generalize upd H3 p (.lst [.ref c, vi (t + 1)]) = H4 at hp4 hc4 off4
    have pu4 : Pur H4 p c (t + 1) := ⟨hp4, cs, cne, c63, hc4⟩
    refine q_when (et_test (ev_op (ev_var rfl) (ev_op ev_c ev_c (rv_I ⟨by decide, by decide, by decide⟩)) rv_I0)) (fun _ H5 e5 => ?_) (fun _ H5 e5 => ?_)
    · refine q_setL (e5 _ _ hc4) (ev_op (ev_var rfl) (ev_var rfl) (rv_I ⟨by omega, by omega⟩)) (ev_var rfl) (ev_var rfl) (by rw [List.length_map]; exact ai) fun H6 e6 => ?_
      obtain ⟨k, hk, ek⟩ := vi_mod (x := cs[t % cs.length]) n1
      refine s_ret (v := vi k) (ev_is (ev_op (ev_var rfl) (ev_var rfl) (rv_I (by show (0 : Int) < (n : Int); omega))) ek) fun H7 e7 => q k H7 hk (fun b o b1 b2 hb => e7 _ _ (by rw [upd_ne b2]; exact e6 _ _ (e5 _ _ (off4 b o b1 b2 hb)))) ⟨e7 _ _ (by rw [upd_ne ne]; exact e6 _ _ (e5 _ _ hp4)), cs.set (t % cs.length) (cs[t % cs.length] / (n : Int)), ?_, ?_, ?_⟩
      · intro z
        have := congrArg List.length z
        rw [List.length_set] at this
        have z0 : cs.length = 0 := this
        omega
      · rw [List.length_set]; exact c63
      · refine e7 _ _ ?_
        rw [upd_same, List.map_set]
    · refine q_asg (ev_op (ev_op (ev_op (ev_op (ev_op (ev_var rfl) ev_c (rv_I (by decide))) ev_c (rv_I (.inr ⟨by decide, by decide⟩))) (ev_op (ev_op (ev_var rfl) (ev_var rfl) (rv_I (.inl ⟨by omega, by omega⟩))) ev_c (rv_I (.inr ⟨by decide, by decide⟩))) rv_I0) ev_c rv_I0) ev_c (rv_I (by decide))) fun H6 e6 => ?_
      have small : ∀ x m : Int, 0 < m → m < 2 ^ 40 → CMul (x % m) (x % m) := fun x m h1 h2 => .inl ⟨by have := Int.emod_nonneg x (show m ≠ 0 by omega); omega, by have := Int.emod_lt_of_pos x h1; omega⟩
      refine q_asg (ev_op (ev_op (ev_var rfl) (ev_var rfl) (rv_I (small _ _ (by decide) (by decide)))) ev_c (rv_I (by decide))) fun H7 e7 => ?_
      refine q_asg (ev_op (ev_op (ev_var rfl) (ev_var rfl) (rv_I (small _ _ (by decide) (by decide)))) ev_c (rv_I (by decide))) fun H8 e8 => ?_
      refine q_when (b := false) (et_is (et_test (ev_op (ev_var rfl) (ev_op ev_c ev_c (rv_I ⟨by decide, by decide, by decide⟩)) rv_I0)) ?_) (fun hb => by cases hb) (fun _ H9 e9 => ?_)
      · show decide ((10 : Int) ^ (9 : Int).toNat < (n : Int)) = false
        refine decide_eq_false ?_
        have : (10 : Int) ^ (9 : Int).toNat = 1000000000 := by decide
        rw [this]
        omega
      · have e49 := (((e5.trans e6).trans e7).trans e8).trans e9
        have fin : ∀ x : Int, tRet (tOp (rI (fun _ j => 0 < j) fun i j => .int (i % j)) (tVar 6) (tVar 1)) { nx := fun _ H' => Q .non H', rt := Q } [some (.ref p), some (vi n), some (.ref c), some (vi t), some (vi (t % cs.length)), some (.int cs[t % cs.length]), some (.int x), none] H9 := fun x => by
          obtain ⟨k, hk, ek⟩ := vi_mod (x := x) n1
          exact s_ret (v := vi k) (ev_is (ev_op (ev_var rfl) (ev_var rfl) (rv_I (by show (0 : Int) < (n : Int); omega))) ek) fun Ha ea => q k Ha hk (fun b o b1 b2 hb => (e49.trans ea) _ _ (off4 b o b1 b2 hb)) (pu4.ex (e49.trans ea))
        exact fin _
/-- _law_draw(purse, e), e worth n -/
theorem do_draw {σ : L2.St} {H : Hp} {ta tb : TE} {p c : Addr} {t n : Nat} {E : XK} {Q : VK} (hp : Ev ta σ H (.ref p)) (hn : Ev tb σ H (vi n)) (pu : Pur H p c t) (t1 : t ≤ 100000) (n1 : 1 ≤ n) (n2 : n ≤ 1000) (q : ∀ k H', k < n → Off H H' p c → Pur H' p c (t + 1) → Q (vi k) H') :
    tCall sp_draw [] E (tCons ta (tCons tb tNil)) σ H Q :=
  ea_cons hp (ea_cons hn ea_nil) H (Ex.refl H) _ fun H1 e1 => ⟨p, c, t, n, rfl, pu.ex e1, t1, n1, n2, fun k H' hk o p' => q k H' hk ((Off.of_ex e1).trans o) p'⟩
end
theorem Off.sql {K : PySem.W.Frag} {H H' : Hp} {p c l : Addr} {xs : List V} (o : Off H H' p c) (h1 : l ≠ p) (h2 : l ≠ c) (h : SqL K H l xs) : SqL K H' l xs := by
  rcases h with (h | ⟨ob, h⟩) | h
  · exact .inl (.inl (o _ _ h1 h2 h))
  · exact .inl (.inr ⟨ob, o _ _ h1 h2 h⟩)
  · exact .inr h
theorem Off.upd {H H' : Hp} {p c l : Addr} {o : HO} (f : Off H H' p c) (n : H l = none) : Off H (upd H' l o) p c := fun b u b1 b2 h => by
  rw [upd_ne (ne_of_none h n)]
  exact f b u b1 b2 h
theorem Off.back {H H' : Hp} {p c l : Addr} (f : Off H H' p c) (h1 : l ≠ p) (h2 : l ≠ c) (n : H' l = none) : H l = none := by
  cases e : H l with
  | none => rfl
  | some o =>
    rw [f l o h1 h2 e] at n
    cases n
theorem Pur.upd {H : Hp} {p c l : Addr} {t : Nat} {o : HO} (h : Pur H p c t) (h1 : l ≠ p) (h2 : l ≠ c) : Pur (upd H l o) p c t := ⟨by rw [upd_ne (Ne.symm h1)]; exact h.1, let ⟨cs, a, b, d⟩ := h.2; ⟨cs, a, b, by rw [upd_ne (Ne.symm h2)]; exact d⟩⟩
section
variable {P : Program} {w : World} {K : PySem.W.Frag} {mg : Str → Option Value} {base : Heap}
section
variable {σ : L2.St} {H : Hp} {D : Ends} {tu tz : TS}
/-- for x in range(e), e by what holds of it -/
theorem q_forRX {ta : TA} {j : Nat} (C : Nat → Hp → Prop) (h : ∀ Q : List V → Hp → Prop, (∀ n H1, C n H1 → Q [vi n] H1) → ta σ H Q) (hn : ∀ n H1, C n H1 → n ≤ 100000) (Pv : Nat → Nat → L2.St → Hp → Prop) (h0 : ∀ n H1, C n H1 → Pv n 0 σ H1)
    (hs : ∀ n i σ' H', i < n → Pv n i σ' H' → tu { D with nx := Pv n (i + 1), ct := Pv n (i + 1), bk := tz D } (σ'.set j (some (vi i))) H') (hd : ∀ n σ' H', Pv n n σ' H' → tz D σ' H') : tSeq (tFor (iRng1 ta) (gName j) tu) tz D σ H :=
  h _ fun n H1 c => ⟨(n : Int), rfl, by have := hn n H1 c; omega, by have := hn n H1 c; omega, for_range (D := { D with nx := tz D }) (lo := 0) (n := ((n : Nat) : Int).toNat) (Pv n) (h0 n H1 c) (fun i σ' H' hi p => by
    have e0 : (0 : Int) + (i : Int) = (i : Int) := Int.zero_add _
    show tu { D with nx := Pv n (i + 1), ct := Pv n (i + 1), bk := tz D } (σ'.set j (some (.int ((0 : Int) + (i : Int))))) H'
    rw [e0]
    exact hs n i σ' H' (by rw [Int.toNat_natCast] at hi; exact hi) p) (fun σ' H' p => hd n σ' H' (by rw [Int.toNat_natCast] at p; exact p))⟩
end
end
/-- a comprehension whose element may do anything, by what holds between its turns -/
theorem do_lcIt {J : It} {n : Nat} {G : Hp → Prop} {Y : Nat → Hp → V → Hp → Prop} {wi : TI} {g : TG} {te : TE} {σ : L2.St} {H : Hp} {vs : List Nat} {Q : VK} (w : Walk J n G Y) (hw0 : ∀ R : It → Hp → Prop, (∀ H1, Ex H H1 → R J H1) → wi σ H R) (Pv : Addr → Nat → Hp → Prop)
    (h0 : ∀ D H1, Ex H H1 → H1 D = none → Pv D 0 (upd H1 D (.lst []))) (hG : ∀ D i H', i ≤ n → Pv D i H' → G H')
    (hs : ∀ D i x H' H'', i < n → Pv D i H' → Y i H' x H'' → g x (wipe σ vs) H'' fun σ2 H2 => wipe σ2 vs = wipe σ vs ∧ if true = true then te σ2 H2 fun y H4 => ∃ acc, H4 D = some (.lst acc) ∧ acc.length < sizeLine ∧ Pv D (i + 1) (upd H4 D (.lst (acc ++ [y]))) else Pv D (i + 1) H2)
    (hd : ∀ D H', Pv D n H' → Q (.ref D) H') : tLc wi g tYes te vs σ H Q :=
  hw0 _ fun H1 e1 Dl nD => lc_it w (Pv Dl) (h0 Dl H1 e1 nD) (hG Dl) (fun i x H2 H3 hi p y => hs Dl i x H2 H3 hi p y) (fun H2 p => hd Dl H2 p)
end K02
end
section
namespace K02
open PySem PySem.Spec PyProof.Rows L2 Evl RZ Dw M20
/-- a comprehension, test and element may do anything, by what holds between its turns -/
theorem do_lcG {J : It} {n : Nat} {G : Hp → Prop} {Y : Nat → Hp → V → Hp → Prop} {wi : TI} {g : TG} {tt : TT} {te : TE} {σ : L2.St} {H : Hp} {vs : List Nat} {Q : VK} (w : Walk J n G Y) (hw0 : ∀ R : It → Hp → Prop, (∀ H1, Ex H H1 → R J H1) → wi σ H R) (Pv : Addr → Nat → Hp → Prop)
    (h0 : ∀ D H1, Ex H H1 → H1 D = none → Pv D 0 (upd H1 D (.lst []))) (hG : ∀ D i H', i ≤ n → Pv D i H' → G H')
    (hs : ∀ D i x H' H'', i < n → Pv D i H' → Y i H' x H'' → g x (wipe σ vs) H'' fun σ2 H2 => wipe σ2 vs = wipe σ vs ∧ tt σ2 H2 fun b H3 => if b = true then te σ2 H3 fun y H4 => ∃ acc, H4 D = some (.lst acc) ∧ acc.length < sizeLine ∧ Pv D (i + 1) (upd H4 D (.lst (acc ++ [y]))) else Pv D (i + 1) H3)
    (hd : ∀ D H', Pv D n H' → Q (.ref D) H') : tLc wi g tt te vs σ H Q :=
  hw0 _ fun H1 e1 Dl nD => lc_it w (Pv Dl) (h0 Dl H1 e1 nD) (hG Dl) (fun i x H2 H3 hi p y => hs Dl i x H2 H3 hi p y) (fun H2 p => hd Dl H2 p)
theorem iteF {a b : Prop} (h : b) : if false = true then a else b := h
theorem Off.seq {K : PySem.W.Frag} {H H' : Hp} {p c l : Addr} {t : Nat} {xs : List V} (o : Off H H' p c) (pu : Pur H p c t) (h1 : l ≠ p) (h2 : l ≠ c) (h : SqL K H l xs ∨ SqT K H l xs) : SqL K H' l xs ∨ SqT K H' l xs := h.imp (o.sql h1 h2) (o.et pu l xs)
theorem w_list {K : PySem.W.Frag} {te : TE} {σ : L2.St} {H : Hp} {a : Addr} {xs : List V} (h : Ev te σ H (.ref a)) (hx : SqL K H a xs) : ∀ H0, Ex H H0 → ∀ R : It → Hp → Prop, (∀ H1, Ex H0 H1 → R (Itl K a) H1) → iList K te σ H0 R := fun H0 e R r => h H0 e _ fun H1 e1 => ⟨a, rfl, ⟨xs, ex_l (e.trans e1) hx⟩, r H1 e1⟩
section
variable {P : Program} {w : World} {K : PySem.W.Frag} {mg : Str → Option Value} {base : Heap}
/-! ### pick -/
def sp_pick (K : PySem.W.Frag) : Sp := fun vs H Q _ => ∃ (p c : Addr) (t : Nat), Pur H p c t ∧ t ≤ 90000 ∧
  ((∃ z : Str, vs = [.ref p, .str z] ∧ 1 ≤ z.length ∧ z.length ≤ 1000 ∧ ∀ (k d : Nat) H', z.cps[k]? = some d → Off H H' p c → Pur H' p c (t + 1) → Q (.str ⟨#[d]⟩) H') ∨
   (∃ (l : Addr) (xs : List V), vs = [.ref p, .ref l] ∧ (SqL K H l xs ∨ SqT K H l xs) ∧ l ≠ p ∧ l ≠ c ∧ 1 ≤ xs.length ∧ xs.length ≤ 1000 ∧ ∀ (k : Nat) x H', xs[k]? = some x → Off H H' p c → Pur H' p c (t + 1) → Q x H'))
theorem c_pick (T : Txt mg) (D : Df K mg "_law_pick" s_pick ["_law_purse_here", "_law_some"]) (c_draw : Cl P w K mg base 1 "_law_draw" sp_draw) : Cl P w K mg base 2 "_law_pick" (sp_pick K) := by
  refine cl_of (k := 1) D sc_pick (fun vs H Q E h => ?_) (fun f cdv A outer s H vs Q E hr h => ?_)
  · obtain ⟨p, c, t, _, _, ⟨z, rfl, _⟩ | ⟨l, xs, rfl, _⟩⟩ := h <;> rfl
  · obtain ⟨p, c, t, pu, t1, h⟩ := h
    refine ⟨_, (pss_one (ps_ret (pe_ix (ix_or (ix_or ix_tup ix_list) ix_str) (pv 1) (pe_cl c_draw hr (by first | decide | omega) (by rfl) (pa_cons (pv 0) (pa_cons (pe_callB (call_or call_len_seq call_len_str) (by rfl) T.z_len PySem.boot_len (pa_cons (pv 1) pa_nil)) pa_nil))) (fun _ _ => rfl)))), ?_⟩
    rcases h with ⟨z, rfl, z1, z2, q⟩ | ⟨l, xs, rfl, hx, lp, lc, x1, x2, q⟩
    · refine do_ret (do_op (do_ev (ev_var rfl) fun H1 e1 => do_draw (n := z.length) (ev_var rfl) (fun H2 e2 Q2 q2 => ev_var rfl H2 (Ex.refl _) _ fun H3 e3 => .inr ⟨z, rfl, sz_of (by omega), q2 H3 e3⟩) (pu.ex e1) (by omega) z1 z2 fun k H2 hk o2 pu2 => ?_))
      have hz : z.cps[k]? = some z.cps[k] := Array.getElem?_eq_getElem hk
      exact .inr ⟨z, (k : Int), z.cps[k], rfl, rfl, sz_of (by omega), atI_nat (by rw [Array.getElem?_toList]; exact hz), q k _ H2 hz ((Off.of_ex e1).trans o2) pu2⟩
    · refine do_ret (do_op (do_ev (ev_var rfl) fun H1 e1 => do_draw (n := xs.length) (ev_var rfl) (fun H2 e2 Q2 q2 => ev_var rfl H2 (Ex.refl _) _ fun H3 e3 => .inl ⟨l, xs, rfl, hx.imp (ex_l ((e1.trans e2).trans e3)) (ex_t ((e1.trans e2).trans e3)), q2 H3 e3⟩) (pu.ex e1) (by omega) x1 x2 fun k H2 hk o2 pu2 => ?_))
      have hk' : xs[k]? = some xs[k] := List.getElem?_eq_getElem hk
      have o02 := (Off.of_ex e1).trans o2
      have got := q k _ H2 hk' o02 pu2
      rcases o02.seq pu lp lc hx with a | a
      · exact .inl (.inr ⟨l, xs, (k : Int), xs[k], rfl, rfl, a, atI_nat hk', got⟩)
      · exact .inl (.inl ⟨l, xs, (k : Int), xs[k], rfl, rfl, a, atI_nat hk', got⟩)
/-! ### cells, whole -/
end
end K02
end
section
namespace K02
open PySem PySem.Spec PyProof.Rows L2 Evl RZ Dw M20
/-! ### texts joined of single signs -/
abbrev one (c : Nat) : Str := ⟨#[c]⟩
theorem glue_fold : ∀ (ps : List Str) (a : Array Nat), (ps.foldl (fun acc p => acc ++ (Str.ofString "").cps ++ p.cps) a).toList = a.toList ++ ps.flatMap (·.cps.toList)
  | [], a => by rw [List.foldl_nil, List.flatMap_nil, List.append_nil]
  | p :: ps, a => by
    rw [List.foldl_cons, glue_fold ps, List.flatMap_cons, Array.toList_append, Array.toList_append, show (Str.ofString "").cps.toList = [] from rfl, List.append_nil, List.append_assoc]
theorem join_ones (cs : List Nat) : (Txt.join (Str.ofString "") (cs.map one)).cps.toList = cs := by
  unfold Txt.join Builtin.Str.glued
  cases cs with
  | nil => rfl
  | cons c cs =>
    show Array.toList (List.foldl _ _ (cs.map one)) = _
    rw [glue_fold]
    show c :: (cs.map one).flatMap (·.cps.toList) = c :: cs
    congr 1
    induction cs with
    | nil => rfl
    | cons d cs ih =>
      rw [List.map_cons, List.flatMap_cons, ih]
      rfl
theorem ones_sum (cs : List Nat) : ((cs.map one).map (·.length)).sum = cs.length := by
  induction cs with
  | nil => rfl
  | cons d cs ih =>
    rw [List.map_cons, List.map_cons, List.sum_cons, ih, List.length_cons]
    show 1 + cs.length = cs.length + 1
    omega
def eight : Str := "abeglmst"
theorem eight_abc : ∀ c ∈ eight.cps.toList, c ∈ letters.cps.toList := by decide +kernel
section
variable {K : PySem.W.Frag} {σ : L2.St} {H : Hp} {te tl : TE}
/-- .. for a, b in a list or tuple of pairs that stand -/
theorem el_lcP {J : It} {G : Hp → Prop} {wi : TI} {ps : List Addr} {f1 f2 : Nat → V} {j1 j2 : Nat} {vs : List Nat} (w : Walk J (ps.map V.ref).length G (YAt (ps.map V.ref))) (hw0 : ∀ H0, Ex H H0 → ∀ R : It → Hp → Prop, (∀ H1, Ex H0 H1 → R J H1) → wi σ H0 R) (hG : ∀ H1, Ex H H1 → G H1)
    (hp : ∀ (i : Nat) q, ps[i]? = some q → SqT K H q [f1 i, f2 i]) (u : Nat → V) (hn : ps.length ≤ 40000) (hw : ∀ x y, wipe (((wipe σ vs).set j1 (some x)).set j2 (some y)) vs = wipe σ vs)
    (he : ∀ (i : Nat) H1, Ex H H1 → i < ps.length → Ev te (((wipe σ vs).set j1 (some (f1 i))).set j2 (some (f2 i))) H1 (u i)) : EvL (tLc wi (gTup K 2 (gCons (gName j1) (gCons (gName j2) gNil))) tYes te vs) σ H ((List.range ps.length).map u) := fun H0 e Q q => hw0 H0 e _ fun H1 e1 Dl nD =>
  lc_it w (fun i H2 => Ex H1 H2 ∧ H2 Dl = some (.lst ((List.range i).map u))) ⟨Ex.new nD, upd_same⟩ (fun i H2 _ p => hG H2 ((e.trans e1).trans p.1)) (fun i x H2 H3 hi p y => by
    obtain ⟨rfl, hx⟩ := y
    rw [List.getElem?_map] at hx
    cases hk : ps[i]? with
    | none =>
      rw [hk] at hx
      cases hx
    | some r =>
      rw [hk] at hx
      cases Option.some.inj hx
      have il : i < ps.length := (List.getElem?_eq_some_iff.mp hk).1
      have e03 := (e.trans e1).trans p.1
      refine ⟨r, _, rfl, ex_t e03 (hp i r hk), rfl, _, _, rfl, _, _, rfl, rfl, hw _ _, et_yes _ (Ex.refl _) _ fun H5 e5 => ?_⟩
      refine iteT ?_
      refine he i H5 (e03.trans e5) il _ (Ex.refl _) _ fun H4 e4 => ⟨_, e4 _ _ (e5 _ _ p.2), sz_lt (by rw [List.length_map, List.length_range]; omega), ((p.1.trans e5).trans e4).mut nD, ?_⟩
      rw [upd_same, List.range_succ, List.map_append]
      rfl) (fun H2 p => q Dl H2 (fresh_back e1 nD) (e1.trans p.1) (by rw [← List.length_map (f := V.ref)]; exact p.2))
end
theorem paired_at {α β : Type} {R : α → β → Prop} : ∀ {xs : List α} {ys : List β} {i : Nat} {x : α}, Paired R xs ys → xs[i]? = some x → ∃ y, ys[i]? = some y ∧ R x y
  | _, _, _, _, .nil, h => by simp at h
  | _, _, 0, _, .cons a _, h => by
    have e := Option.some.inj h
    subst e
    exact ⟨_, rfl, a⟩
  | _, _, i + 1, x, .cons _ b, h => by
    obtain ⟨y, e, r⟩ := paired_at (i := i) b h
    exact ⟨y, e, r⟩
section
variable {P : Program} {w : World} {K : PySem.W.Frag} {mg : Str → Option Value} {base : Heap}
def sp_deeds (K : PySem.W.Frag) : Sp := fun vs H Q _ => ∃ (p c : Addr) (t : Nat), vs = [.ref p] ∧ Pur H p c t ∧ t ≤ 80000 ∧ ∀ v sg t' H', Off H H' p c → Pur H' p c t' → t' ≤ t + 40 → FSig K H' v sg → SigOk sg → Q v H'
theorem c_deeds (T : Txt mg) (D : Df K mg "_law_deeds" s_dds ["_law_purse_here"]) (c_draw : Cl P w K mg base 1 "_law_draw" sp_draw) (c_pick : Cl P w K mg base 2 "_law_pick" (sp_pick K)) : Cl P w K mg base 3 "_law_deeds" (sp_deeds K) := by
  refine cl_of (k := 2) D sc_dds (fun vs H Q E h => ?_) (fun f cdv A outer s H vs Q E hr h => ?_)
  · obtain ⟨p, c, t, rfl, _⟩ := h
    rfl
  · obtain ⟨p, c, t, rfl, pu, t1, q⟩ := h
    refine ⟨_, (pss_cons (ps_set (i := 1) sc_dds.nd rfl (.inl rfl) (pe_lst pa_nil))
      (pss_cons (ps_for PassesOwn.never (by rfl) (pi_range1 (by rfl) T.z_range (pa_cons (pe_op op_add pe_int (pe_cl c_draw hr (by first | decide | omega) (by rfl) (pa_cons (pv 0) (pa_cons pe_int pa_nil)))) pa_nil)) (pg_name (i := 2) sc_dds.nd rfl (.inl rfl))
        (pss_cons (ps_set (i := 3) sc_dds.nd rfl (.inl rfl) (pe_op op_add pe_int (pe_cl c_draw hr (by first | decide | omega) (by rfl) (pa_cons (pv 0) (pa_cons (pe_ix ix_list (pe_lst (pa_cons pe_int (pa_cons pe_int pa_nil))) (pe_cl c_draw hr (by first | decide | omega) (by rfl) (pa_cons (pv 0) (pa_cons pe_int pa_nil))) (fun _ _ => rfl)) pa_nil)))))
        (pss_cons (ps_set (i := 4) sc_dds.nd rfl (.inl rfl) (pe_bm PySem.F.plainAttrs_str PySem.F.slot_str_join PySem.F.type_str_join mt_join pe_str (pa_cons (pe_lc (own := [("_law_sign", 5)]) (g := (gName 5)) (by rfl) sc_dds.nd (pi_range1 (by rfl) T.z_range (pa_cons (pv 3) pa_nil)) (blkOk_by (own := [("_law_sign", 5)]) (N := ["_law_purse_here", "_law_found", "_law_k", "_law_size", "_law_name", "_law_sign", "_law_other", "_law_places"]) (sc := defScope s_dds) (by decide +kernel)) (fun _ _ _ _ _ => (pg_name (i := 5) sc_dds.nd rfl (.inl rfl))) (fun _ _ _ _ _ => pts_nil) (fun _ _ _ _ _ => (pe_cl c_pick hr (by first | decide | omega) (by rfl) (pa_cons (pv 0) (pa_cons pe_str pa_nil))))) pa_nil)))
        (pss_one (ps_if (pt_cmpR op_notIn_seq (pv 4) (pe_lc (own := [("_law_other", 6), ("_law_places", 7)]) (g := (gTup _ 2 (gCons (gName 6) (gCons (gName 7) gNil)))) (by rfl) sc_dds.nd (pi_list (pv 1)) (blkOk_by (own := [("_law_other", 6), ("_law_places", 7)]) (N := ["_law_purse_here", "_law_found", "_law_k", "_law_size", "_law_name", "_law_sign", "_law_other", "_law_places"]) (sc := defScope s_dds) (by decide +kernel)) (fun _ _ _ _ _ => (pg_tup (by rfl) (pgs_cons (pg_name (i := 6) sc_dds.nd rfl (.inl rfl)) (pgs_cons (pg_name (i := 7) sc_dds.nd rfl (.inl rfl)) pgs_nil)))) (fun _ _ _ _ _ => pts_nil) (fun _ _ _ _ _ => (pv 6))) (by rfl))
          (pss_one (ps_expr (pe_bm PySem.F.plainAttrs_list PySem.F.slot_list_append PySem.F.type_list_append mt_append (pv 1) (pa_cons (pe_tup (pa_cons (pv 4) (pa_cons (pe_cl c_draw hr (by first | decide | omega) (by rfl) (pa_cons (pv 0) (pa_cons pe_int pa_nil))) pa_nil))) pa_nil))))
          pss_nil)))))
      (pss_one (ps_ret (pe_callTy call_tupF (by rfl) T.z_tuple (by decide +kernel) (pa_cons (pv 1) pa_nil)))))), ?_⟩
    refine q_asgL (el_lst ea_nil (Nat.zero_le _)) fun l H1 nl e1 hl => ?_
    obtain ⟨lp, lc⟩ := pu.fresh nl
    refine q_forRX (fun n H2 => 1 ≤ n ∧ n ≤ 4 ∧ Off H1 H2 p c ∧ Pur H2 p c (t + 1)) (fun Q h => ?_) (fun n H2 h => by omega)
      (fun n i σ H' => (1 ≤ n ∧ n ≤ 4) ∧ Off H H' p c ∧ (∃ t', Pur H' p c t' ∧ t' ≤ t + 1 + 7 * i) ∧ (∃ (ps : List Addr) (sg : List (Str × Nat)), H' l = some (.lst (ps.map V.ref)) ∧ Paired (fun a d => SqT K H' a [.str d.1, vi d.2]) ps sg ∧ (∀ d ∈ sg, Name d.1 ∧ d.2 ≤ 2) ∧ (sg.map (·.1)).Nodup ∧ sg.length ≤ i ∧ (0 < i → 1 ≤ sg.length)) ∧ ∃ y2 y3 y4, σ = [some (.ref p), some (.ref l), y2, y3, y4, none, none, none])
      (fun n H2 ⟨a, b, o2, pu2⟩ => ⟨⟨a, b⟩, (Off.of_ex e1).trans o2, ⟨_, pu2, by omega⟩, ⟨[], [], o2 _ _ lp lc hl, .nil, fun _ z => (nomatch z), List.nodup_nil, Nat.le_refl _, fun z => absurd z (Nat.lt_irrefl _)⟩, _, _, _, rfl⟩) (fun n i σ H2 hi ⟨⟨a, b⟩, o2, ⟨t2, pu2, lt2⟩, ⟨ps, sg, hps, prs, nm, nd, ls, some1⟩, y2, y3, y4, hσ⟩ => ?_) (fun n σ H2 ⟨⟨a, b⟩, o2, ⟨t2, pu2, lt2⟩, ⟨ps, sg, hps, prs, nm, nd, ls, some1⟩, y2, y3, y4, hσ⟩ => ?_)
    · refine do_draw (ev_var rfl) (ev_c (v := vi 4)) (pu.ex e1) (by omega) (by decide) (by decide) fun k H2 hk o2 pu2 => ⟨1, (k : Int), rfl, rfl, ?_⟩
      have e : V.int (1 + (k : Int)) = vi (k + 1) := by
        show V.int (1 + (k : Int)) = V.int ((k + 1 : Nat) : Int)
        rw [Int.natCast_add, Int.add_comm]
        rfl
      show Q [V.int (1 + (k : Int))] H2
      rw [e]
      exact h (k + 1) H2 ⟨by omega, by omega, o2, pu2⟩
    · subst hσ
      have i4 : i < 4 := by omega
      -- the name's length
      refine do_set (do_op (do_ev ev_c fun H3 e3 => do_cons (do_ev (ev_var rfl) fun H4 e4 => do_cons (do_op (do_evL (el_lst (vs := [vi 2, vi 4]) (ea_cons ev_c (ea_cons ev_c ea_nil)) (by show 2 ≤ 100000; decide)) fun d H5 nd5 e5 hd => do_draw (ev_var rfl) (ev_c (v := vi 2)) (pu2.ex ((e3.trans e4).trans e5)) (by omega) (by decide) (by decide) fun k H6 hk o6 pu6 => ?_)))))
      have e25 := (e3.trans e4).trans e5
      obtain ⟨dp, dc⟩ := (pu2.ex (e3.trans e4)).fresh nd5
      have o26 : Off H2 H6 p c := (Off.of_ex e25).trans o6
      have mk : k < [vi 2, vi 4].length := hk
      have two4 : ∃ m, [vi 2, vi 4][k]? = some (vi m) ∧ 1 ≤ m ∧ m ≤ 4 := by
        have : k = 0 ∨ k = 1 := by omega
        rcases this with e | e <;> subst e
        · exact ⟨2, rfl, by decide, by decide⟩
        · exact ⟨4, rfl, by decide, by decide⟩
      obtain ⟨m, hm, m1, m4⟩ := two4
      refine ⟨d, [vi 2, vi 4], (k : Int), vi m, rfl, rfl, sq_of (o6 _ _ dp dc hd), atI_nat hm, do_nil ⟨p, c, t2 + 1, m, rfl, pu6, by omega, m1, by omega, fun k2 H7 hk2 o7 pu7 => ⟨1, (k2 : Int), rfl, rfl, ?_⟩⟩⟩
      have en : V.int (1 + (k2 : Int)) = vi (k2 + 1) := by
        show V.int (1 + (k2 : Int)) = V.int ((k2 + 1 : Nat) : Int)
        rw [Int.natCast_add, Int.add_comm]
        rfl
      have o27 : Off H2 H7 p c := o26.trans o7
      show tSeq _ _ _ [some (.ref p), some (.ref l), some (vi i), some (V.int (1 + (k2 : Int))), y4, none, none, none] H7
      rw [en]
      obtain ⟨m', hm'⟩ : ∃ m', m' = k2 + 1 := ⟨_, rfl⟩
      rw [← hm']
      have m1' : 1 ≤ m' := by omega
      have m4' : m' ≤ 4 := by omega
      -- the name
      refine do_set ⟨rfl, do_cons (do_lcIt walk_range (fun R r => w_rng (n := m') (ea_cons (ev_var rfl) ea_nil) (by omega) H7 (Ex.refl _) R r) (fun D j H' => H7 D = none ∧ Off H7 H' p c ∧ Pur H' p c (t2 + 1 + 1 + j) ∧ ∃ cs : List Nat, H' D = some (.lst ((cs.map one).map V.str)) ∧ cs.length = j ∧ ∀ c ∈ cs, c ∈ eight.cps.toList)
        (fun D H8 e8 nD => ⟨fresh_back e8 nD, .of_ex (e8.trans (Ex.new nD)), pu7.ex (e8.trans (Ex.new nD)), [], upd_same, rfl, fun _ z => (nomatch z)⟩) (fun _ _ _ _ _ => trivial) (fun D j x H8 H9 hj ⟨nD, o8, pu8, cs, hcs, lcs, low⟩ y => ?_) (fun D H8 ⟨nD, o8, pu8, cs, hcs, lcs, low⟩ => ?_))⟩
      · obtain ⟨rfl, rfl⟩ := y
        obtain ⟨Dp, Dc⟩ := pu7.fresh nD
        refine ⟨rfl, ?_⟩
        refine iteT (do_cons (do_ev (ev_var rfl) fun H10 e10 => do_cons (do_ev ev_c fun H11 e11 => do_nil ⟨p, c, _, pu8.ex (e10.trans e11), by omega, .inl ⟨eight, rfl, by decide, by decide, fun kk dd H12 hdd o12 pu12 => ?_⟩⟩)))
        have o812 : Off H9 H12 p c := (Off.of_ex (e10.trans e11)).trans o12
        refine ⟨_, o812 _ _ Dp Dc hcs, sz_lt (by rw [List.length_map, List.length_map]; omega), nD, (o8.trans o812).upd nD, pu12.upd Dp Dc, cs ++ [dd], ?_, by rw [List.length_append, lcs]; rfl, fun x hx => ?_⟩
        · rw [upd_same, List.map_append, List.map_append]
          rfl
        · rcases List.mem_append.mp hx with z | z
          · exact low x z
          · rw [List.mem_singleton.mp z]
            obtain ⟨hi', e⟩ := Array.getElem?_eq_some_iff.mp hdd
            rw [← e]
            exact Array.getElem_mem_toList hi'
      · refine ⟨Str.ofString "", D, cs.map one, rfl, rfl, .inl (sq_of hcs), ?_, ?_⟩
        · rw [ones_sum]
          show _ + _ * 0 ≤ _
          omega
        obtain ⟨z, hz⟩ : ∃ z, z = Txt.join (Str.ofString "") (cs.map one) := ⟨_, rfl⟩
        rw [← hz]
        have zc : z.cps.toList = cs := by rw [hz]; exact join_ones cs
        have zl : z.length = cs.length := by
          show z.cps.size = _
          rw [← zc, Array.length_toList]
        have zn : Name z := ⟨by omega, by omega, fun x hx => eight_abc x (low x (by rw [← zc]; exact hx))⟩
        have o28 : Off H2 H8 p c := o27.trans o8
        have hl8 : H8 l = some (.lst (ps.map V.ref)) := o28 _ _ lp lc hps
        have et28 : ET K H2 H8 := o28.et pu2
        have prs8 : Paired (fun a d => SqT K H8 a [.str d.1, vi d.2]) ps sg := paired_imp (fun _ _ h => et28 _ _ h) prs
        have lps := paired_len prs8
        show tIfS _ _ _ _ [some (.ref p), some (.ref l), some (vi i), some (vi m'), some (.str z), none, none, none] H8
        -- the names so far
        have names := el_lcP (K := K) (σ := [some (.ref p), some (.ref l), some (vi i), some (vi m'), some (.str z), none, none, none]) (H := H8) (te := tVar 6) (j1 := 6) (j2 := 7) (vs := [6, 7]) (wi := iList K (tVar 1)) (ps := ps) (f1 := fun i => .str (sg.getD i ("", 0)).1) (f2 := fun i => vi (sg.getD i ("", 0)).2) walk_list (w_list (K := K) (xs := ps.map V.ref) (ev_var rfl) (sq_of hl8)) (fun H9 e9 => sq_of (e9 _ _ hl8)) (fun j r hr' => by
            obtain ⟨dd, e1, h1⟩ := paired_at prs8 hr'
            rw [List.getD_eq_getElem?_getD, e1]
            exact h1) (fun i => .str (sg.getD i ("", 0)).1) (by omega) (fun _ _ => rfl) (fun j H9 e9 hj => ev_var rfl)
        have eN : ((List.range ps.length).map fun i => V.str (sg.getD i ("", 0)).1) = (sg.map (·.1)).map V.str := by
          rw [lps]
          apply List.ext_getElem?
          intro j
          by_cases hj : j < sg.length
          · rw [List.getElem?_map, List.getElem?_range hj, List.getElem?_map, List.getElem?_map, List.getElem?_eq_getElem hj]
            show some (V.str (sg.getD j ("", 0)).1) = some (V.str sg[j].1)
            rw [List.getD_eq_getElem?_getD, List.getElem?_eq_getElem hj]
            rfl
          · rw [List.getElem?_eq_none_iff.mpr (by simp; omega), List.getElem?_eq_none_iff.mpr (by simp; omega)]
        rw [eN] at names
        refine s_when (et_test (ev_opL (ev_var rfl) names (fun r H9 hr' e9 => rv_niL (K := K) (sq_of hr') rfl (flat_strs _)))) (fun hb H9 e9 => ?_) (fun hb H9 e9 => ?_)
        · rw [inV_str] at hb
          have new : z ∉ sg.map (·.1) := fun h => by
            rw [decide_eq_true h] at hb
            cases hb
          refine do_app (e9 _ _ hl8) (ev_var rfl) fun H10 e10 => do_tup (do_cons (do_ev (ev_var rfl) fun H11 e11 => do_cons (do_draw (ev_var rfl) (ev_c (v := vi 3)) (pu8.ex ((e9.trans e10).trans e11)) (by omega) (by decide) (by decide) fun pl H12 hpl o12 pu12 => do_nil ⟨by show 2 ≤ sizeLine; decide, fun r nr => ?_⟩)))
          have o812 : Off H8 H12 p c := (Off.of_ex ((e9.trans e10).trans e11)).trans o12
          have hl12 : H12 l = some (.lst (ps.map V.ref)) := o812 _ _ lp lc hl8
          have x13 : Ex H12 (upd H12 r (.tup [.str z, vi pl])) := Ex.new nr
          have hl13 := x13 _ _ hl12
          refine ⟨l, _, .ref r, rfl, rfl, hl13, sz_lt (by rw [List.length_map]; omega), ?_⟩
          have et13 : ET K H8 (upd (upd H12 r (.tup [.str z, vi pl])) l (.lst (ps.map V.ref ++ [.ref r]))) := ET.trans (o812.et pu8) (ET.trans (Dw.Ex.et x13) (ET.refl.upd hl13))
          have et14 : ET K (upd H12 r (.tup [.str z, vi pl])) (upd (upd H12 r (.tup [.str z, vi pl])) l (.lst (ps.map V.ref ++ [.ref r]))) := ET.refl.upd hl13
          obtain ⟨rp, rc⟩ := pu12.fresh nr
          have nlH : H l = none := nl
          refine ⟨⟨a, b⟩, (((o2.trans o28).trans o812).trans (.of_ex x13)).upd nlH, ⟨_, (pu12.ex x13).upd lp lc, by omega⟩, ⟨ps ++ [r], sg ++ [(z, pl)], by rw [upd_same, List.map_append]; rfl, paired_snoc (R := fun a (d : Str × Nat) => SqT K (upd (upd H12 r (.tup [.str z, vi pl])) l (.lst (ps.map V.ref ++ [.ref r]))) a [.str d.1, vi d.2]) (y := (z, pl)) (et14 _ _ (st_of upd_same)) (paired_imp (R := fun a (d : Str × Nat) => SqT K H8 a [V.str d.1, vi d.2]) (fun _ _ h => et13 _ _ h) prs8), fun dd hdd => ?_, ?_, by rw [List.length_append]; show sg.length + 1 ≤ i + 1; omega, fun _ => by rw [List.length_append]; show 1 ≤ sg.length + 1; omega⟩, _, _, _, rfl⟩
          · rcases List.mem_append.mp hdd with h | h
            · exact nm dd h
            · rw [List.mem_singleton.mp h]
              exact ⟨zn, by show pl ≤ 2; omega⟩
          · rw [List.map_append]
            exact (List.perm_append_singleton z (sg.map (·.1))).nodup_iff.mpr (List.nodup_cons.mpr ⟨new, nd⟩)
        · rw [inV_str] at hb
          have old : z ∈ sg.map (·.1) := by
            by_cases h : z ∈ sg.map (·.1)
            · exact h
            · rw [decide_eq_false h] at hb
              cases hb
          refine ⟨⟨a, b⟩, (o2.trans o28).trans (.of_ex e9), ⟨_, pu8.ex e9, by omega⟩, ⟨ps, sg, e9 _ _ hl8, paired_imp (fun _ _ h => ex_t e9 h) prs8, nm, nd, by omega, fun _ => ?_⟩, _, _, _, rfl⟩
          cases sg with
          | nil => cases old
          | cons _ _ => exact Nat.succ_le_succ (Nat.zero_le _)
    · subst hσ
      have ok : SigOk sg := ⟨some1 (by omega), by omega, fun d hd => (nm d hd).1, fun d hd => (nm d hd).2, nd⟩
      refine do_ret (do_cb (do_cons (do_ev (ev_var rfl) fun H3 e3 => ⟨l, _, rfl, sq_of (e3 _ _ hps), fun r o nr od => ?_⟩)))
      have x4 : Ex H2 (upd H3 r (.frz o (.tup (ps.map V.ref)))) := e3.trans (Ex.new nr)
      exact q _ sg t2 _ (o2.trans (.of_ex x4)) (pu2.ex x4) (by omega) ⟨r, o, ps, rfl, upd_same, od, paired_imp (fun _ _ h => ex_t x4 h) prs⟩ ok
end
end K02
end
section
namespace K02
open PySem PySem.Spec PyProof.Rows L2 Evl RZ Dw M20
def six : Str := "uvwxyz"
theorem six_vars : ∀ c ∈ six.cps.toList, one c ∈ vars := by decide +kernel
section
variable {K : PySem.W.Frag} {σ : L2.St} {H : Hp} {ta tb tc te : TE}
def rIntB : List V → Hp → VK → Prop := fun xs H Q => (∃ i, xs = [.int i] ∧ Q (.int i) H) ∨ ∃ k, xs = [.bl k] ∧ Q (.int (if k then 1 else 0)) H
theorem ev_intK {b : Bool} (h : Ev te σ H (.bl b)) : Ev (tCB rIntB (tCons te tNil)) σ H (vi (if b = true then 1 else 0)) := fun H1 e Q q => h H1 e _ fun H2 e2 => .inr ⟨b, rfl, by
  have z := q H2 e2
  cases b <;> exact z⟩
/-- == of a list of letters and [] -/
theorem ev_none {l : Addr} {ls : List Str} (h : Ev ta σ H (.ref l)) (hl : SqL K H l (ls.map V.str)) (sub : ∀ x ∈ ls, x ∈ vars) (few : ls.length ≤ 6) : Ev (tOp (rEqD K) ta (tLst tNil)) σ H (.bl ls.isEmpty) := fun H1 e1 Q q => h H1 e1 _ fun H2 e2 => ⟨Nat.zero_le _, fun r nr => by
  have e02 := e1.trans e2
  refine ⟨.list (ls.map PyData.str), .list [], .lst (ex_l (e02.trans (Ex.new nr)) hl) (dps_strs ls), .lst (sq_of upd_same) .nil, (gd_strs sub few).shaped (by decide), rfl, ?_⟩
  have z := q _ (e2.trans (Ex.new (o := .lst []) nr))
  cases ls with
  | nil => exact z
  | cons a r => exact z⟩
end
section
variable {P : Program} {w : World} {K : PySem.W.Frag} {mg : Str → Option Value} {base : Heap}
def sp_letters : Sp := fun vs H Q _ => ∃ (p c : Addr) (t most : Nat), vs = [.ref p, vi most] ∧ 1 ≤ most ∧ most ≤ 6 ∧ Pur H p c t ∧ t ≤ 90000 ∧ ∀ l ls H', H l = none → Off H H' p c → Pur H' p c (t + 6) → H' l = some (.lst (ls.map V.str)) → ls ≠ [] → ls.length ≤ most → (∀ x ∈ ls, x ∈ vars) → Q (.ref l) H'
theorem c_letters (T : Txt mg) (D : Df K mg "_law_letters" s_ltr ["_law_purse_here", "_law_most"]) (c_draw : Cl P w K mg base 1 "_law_draw" sp_draw) : Cl P w K mg base 2 "_law_letters" sp_letters := by
  refine cl_of (k := 1) D sc_ltr (fun vs H Q E h => ?_) (fun f cdv A outer s H vs Q E hr h => ?_)
  · obtain ⟨p, c, t, most, rfl, _⟩ := h
    rfl
  · obtain ⟨p, c, t, most, rfl, m1, m6, pu, t1, q⟩ := h
    refine ⟨_, (pss_cons (ps_set (i := 2) sc_ltr.nd rfl (.inl rfl) (pe_slice sl_list (pe_lc (own := [("_law_x", 3)]) (g := (gName 3)) (by rfl) sc_ltr.nd (pi_str pe_str) (blkOk_by (own := [("_law_x", 3)]) (N := ["_law_purse_here", "_law_most", "_law_found", "_law_x"]) (sc := defScope s_ltr) (by decide +kernel)) (fun _ _ _ _ _ => (pg_name (i := 3) sc_ltr.nd rfl (.inl rfl))) (fun _ _ _ _ _ => (pts_one (pt_cmpR op_eq (pe_cl c_draw hr (by first | decide | omega) (by rfl) (pa_cons (pv 0) (pa_cons pe_int pa_nil))) pe_int (nomark _)))) (fun _ _ _ _ _ => (pv 3))) po_none (po_some (pv 1))))
      (pss_one (ps_ret (pe_op op_cat (pv 2) (pe_op op_rep (pe_lst (pa_cons pe_str pa_nil)) (pe_callTy call_int1 (by rfl) T.z_int (by decide +kernel) (pa_cons (pe_cmpR (op_eqD hr.units) (pv 2) (pe_lst pa_nil) (nomark _)) pa_nil))))))), ?_⟩
    refine do_set (do_lcG walk_str (fun R r => w_str (z := six) ev_c H (Ex.refl _) R r) (fun D j H' => H D = none ∧ Off H H' p c ∧ Pur H' p c (t + j) ∧ ∃ ls : List Str, H' D = some (.lst (ls.map V.str)) ∧ ls.length ≤ j ∧ ∀ x ∈ ls, x ∈ vars)
      (fun D H1 e1 nD => ⟨fresh_back e1 nD, .of_ex (e1.trans (Ex.new nD)), pu.ex (e1.trans (Ex.new nD)), [], upd_same, Nat.le_refl _, fun _ z => (nomatch z)⟩) (fun _ _ _ _ _ => trivial) (fun D j x H1 H2 hj ⟨nD, o1, pu1, ls, hls, lls, sub⟩ y => ?_) (fun D H1 ⟨nD, o1, pu1, ls, hls, lls, sub⟩ => ?_))
    · obtain ⟨rfl, d, hd, rfl⟩ := y
      have j6 : j < 6 := hj
      obtain ⟨Dp, Dc⟩ := pu.fresh nD
      have dv : one d ∈ vars := six_vars d (by
        obtain ⟨hi', e⟩ := Array.getElem?_eq_some_iff.mp hd
        rw [← e]
        exact Array.getElem_mem_toList hi')
      refine ⟨rfl, do_test (do_op (do_draw (ev_var rfl) (ev_c (v := vi 2)) pu1 (by omega) (by decide) (by decide) fun k H3 hk o3 pu3 => do_ev ev_c fun H4 e4 => rv_eq rfl H4 (Ex.refl _) _ fun H5 e5 => ⟨_, rfl, ?_⟩))⟩
      have e35 := e4.trans e5
      have hls5 : H5 D = some (.lst (ls.map V.str)) := e35 _ _ (o3 _ _ Dp Dc hls)
      have o15 : Off H H5 p c := (o1.trans o3).trans (.of_ex e35)
      split
      · refine do_ev (ev_var rfl) fun H6 e6 => ⟨_, e6 _ _ hls5, sz_lt (by rw [List.length_map]; omega), nD, (o15.trans (.of_ex e6)).upd nD, (pu3.ex (e35.trans e6)).upd Dp Dc, ls ++ [one d], ?_, by rw [List.length_append]; show ls.length + 1 ≤ j + 1; omega, fun x hx => ?_⟩
        · rw [upd_same, List.map_append]
          rfl
        · rcases List.mem_append.mp hx with z | z
          · exact sub x z
          · rw [List.mem_singleton.mp z]
            exact dv
      · exact ⟨nD, o15, pu3.ex e35, ls, hls5, by omega, sub⟩
    · have l6 : ls.length ≤ 6 := lls
      have cut : cutV (ls.map V.str) none (some (most : Int)) = (ls.take most).map V.str := by
        unfold cutV
        rw [HT.sIx_none, show HT.sIx (ls.map V.str).length (ls.map V.str).length (some (most : Int)) = min most (ls.map V.str).length from HT.sIx_nat _ _ most, Nat.sub_zero, List.drop_zero, List.length_map, List.map_take]
        by_cases z : most ≤ ls.length
        · rw [Nat.min_eq_left z]
        · rw [Nat.min_eq_right (by omega), List.take_of_length_le (by rw [List.length_map]; exact Nat.le_refl _), List.take_of_length_le (by rw [List.length_map]; omega)]
      refine ⟨vi most, rfl, (most : Int), rfl, ?_⟩
      refine ⟨D, _, rfl, sq_of hls, ?_⟩
      rw [cut]
      have lt : (ls.take most).length ≤ most := by rw [List.length_take]; exact Nat.min_le_left _ _
      have l6b : (ls.take most).length ≤ 6 := Nat.le_trans lt m6
      have sub2 : ∀ x ∈ ls.take most, x ∈ vars := fun x hx => sub x (List.mem_of_mem_take hx)
      generalize ls.take most = ls at *
      intro l nl
      have e2 : Ex H1 (upd H1 l (.lst (ls.map V.str))) := Ex.new nl
      have hl : (upd H1 l (.lst (ls.map V.str))) l = some (.lst (ls.map V.str)) := upd_same
      generalize upd H1 l (.lst (ls.map V.str)) = H2 at *
      have pu2 : Pur H2 p c (t + 6) := pu1.ex e2
      have o2 : Off H H2 p c := o1.trans (.of_ex e2)
      show tRet _ _ [some (.ref p), some (vi most), some (.ref l), none] H2
      refine do_ret (do_op (do_ev (ev_var rfl) fun H3 e3 => do_evL (el_rep (n := if ls.isEmpty = true then 1 else 0) (el_lst (ea_cons (ev_c (v := .str "x")) ea_nil) (by show 1 ≤ 100000; decide)) (ev_intK (ev_none (K := K) (ev_var rfl) (sq_of (e3 _ _ hl)) sub2 l6b)) (by split <;> decide) (by split <;> decide)) fun b H4 nb e4 hb => ?_))
      refine ⟨l, b, _, _, rfl, rfl, (e3.trans e4) _ _ hl, hb, sz_of (by rw [rep1, List.length_map, List.length_replicate]; split <;> omega), fun r nr => ?_⟩
      have e5 : Ex H2 (upd H4 r (.lst (ls.map V.str ++ (List.replicate (if ls.isEmpty = true then 1 else 0) [V.str "x"]).flatten))) := (e3.trans e4).trans (Ex.new nr)
      have nr2 : H2 r = none := fresh_back (e3.trans e4) nr
      obtain ⟨rp, rc⟩ := pu2.fresh nr2
      have nrH : H r = none := o2.back rp rc nr2
      cases ls with
      | nil => exact q r ["x"] _ nrH (o2.trans (.of_ex e5)) (pu2.ex e5) (by rw [upd_same]; rfl) (by simp) m1 (fun x hx => by rw [List.mem_singleton.mp hx]; decide)
      | cons a rest => exact q r (a :: rest) _ nrH (o2.trans (.of_ex e5)) (pu2.ex e5) (by rw [upd_same]; show some (HO.lst (List.map V.str (a :: rest) ++ [])) = _; rw [List.append_nil]) (by simp) lt sub2
end
end K02
end
section
namespace K02
open PySem PySem.Spec PyProof.Rows L2 Evl RZ Dw M20
mutual
/-- how deep a term is -/
def Tm.hgt : Tm → Nat
  | .var _ => 0
  | .deed _ ts => 1 + hgts ts
def hgts : List Tm → Nat
  | [] => 0
  | t :: ts => max t.hgt (hgts ts)
end
theorem hgts_le {n : Nat} : ∀ {ts : List Tm}, (∀ t ∈ ts, t.hgt ≤ n) → hgts ts ≤ n
  | [], _ => by rw [hgts]; exact Nat.zero_le _
  | t :: ts, h => by
    rw [hgts]
    exact Nat.max_le.mpr ⟨h t (List.mem_cons_self ..), hgts_le fun x hx => h x (List.mem_cons_of_mem _ hx)⟩
theorem TmsV.snoc {K : PySem.W.Frag} {H : Hp} {ts : List Tm} {us : List V} {t : Tm} {u : V} (h : TmsV K H ts us) (k : TmV K H t u) : TmsV K H (ts ++ [t]) (us ++ [u]) := h.app (.one k)
theorem tmv_var {K : PySem.W.Frag} {H : Hp} {a : Addr} {x : Str} (h : SqT K H a [.str "var", .str x]) : TmV K H (.var x) (.ref a) := by
  rw [TmV]
  exact ⟨a, rfl, h⟩
theorem tmv_deed {K : PySem.W.Frag} {H : Hp} {a b : Addr} {f : Str} {ts : List Tm} {us : List V} (h : SqT K H a [.str "deed", .str f, .ref b]) (h2 : SqT K H b us) (h3 : TmsV K H ts us) : TmV K H (.deed f ts) (.ref a) := by
  rw [TmV]
  exact ⟨a, b, us, rfl, h, h2, h3⟩
theorem FSig.off {K : PySem.W.Frag} {H H' : Hp} {v : V} {sg : List (Str × Nat)} {p c : Addr} {t : Nat} (pu : Pur H p c t) (o : Off H H' p c) (h : FSig K H v sg) : FSig K H' v sg := by
  obtain ⟨a, ob, ps, q, s, d, pr⟩ := h
  refine ⟨a, ob, ps, q, o _ _ (fun e => ?_) (fun e => ?_) s, d, paired_imp (fun _ _ z => o.et pu _ _ z) pr⟩
  · rw [e, pu.1] at s
    cases s
  · obtain ⟨_, cs, _, _, h3⟩ := pu
    rw [e, h3] at s
    cases s
section
variable {K : PySem.W.Frag} {σ : L2.St} {H : Hp} {ta tb tc : TE} {t1 : TT}
theorem do_when {c : TT} {tu tz : TS} {D : Ends} (h : c σ H fun b H1 => if b = true then tu { D with nx := tz D } σ H1 else tz D σ H1) : tSeq (tIfS c tu tNext) tz D σ H := h
/-- deep < 1 or a draw of 4 is 0 -/
theorem do_leafTest {d t : Nat} {p c : Addr} {E : XK} {R : Bool → Hp → Prop} (h1 : EvT t1 σ H (decide (d < 1))) (ha : ∀ H1, Ex H H1 → Ev ta σ H1 (.ref p)) (hb : ∀ H1, Ex H H1 → Ev tb σ H1 (vi 4)) (hc : ∀ H1, Ev tc σ H1 (.int 0)) (pu : Pur H p c t) (lt : t ≤ 90000)
    (h : ∀ b H2 t2, Off H H2 p c → Pur H2 p c t2 → t2 ≤ t + 1 → (d = 0 → t2 = t) → (b = false → 1 ≤ d) → R b H2) : tOr t1 (tTest (tOp rEq (tCall sp_draw [] E (tCons ta (tCons tb tNil))) tc)) σ H R :=
  h1 H (Ex.refl _) _ fun H1 e1 => by
    by_cases z : d < 1
    · rw [decide_eq_true z]
      exact h true H1 t (.of_ex e1) (pu.ex e1) (by omega) (fun _ => rfl) (fun b => by cases b)
    · rw [decide_eq_false z]
      refine iteF (do_test (do_op (do_draw (ha H1 e1) (hb H1 e1) (pu.ex e1) (by omega) (by decide) (by decide) fun k H2 hk o2 pu2 => do_ev (hc H2) fun H3 e3 => rv_eq rfl H3 (Ex.refl _) _ fun H4 e4 => ⟨_, rfl, ?_⟩)))
      exact h _ H4 (t + 1) (((Off.of_ex e1).trans o2).trans (.of_ex (e3.trans e4))) (pu2.ex (e3.trans e4)) (by omega) (fun e => by omega) (fun _ => by omega)
end
section
variable {P : Program} {w : World} {K : PySem.W.Frag} {mg : Str → Option Value} {base : Heap}
theorem mem_lss {x : Str} : ∀ {ts : List Tm}, x ∈ lss ts → ∃ t, t ∈ ts ∧ x ∈ t.ls
  | [], h => by
    rw [lss] at h
    cases h
  | t :: ts, h => by
    rw [lss, List.mem_append] at h
    rcases h with h | h
    · exact ⟨t, List.mem_cons_self .., h⟩
    · obtain ⟨u, hu, hx⟩ := mem_lss h
      exact ⟨u, List.mem_cons_of_mem _ hu, hx⟩
theorem leaf_kids {tm t : Tm} {f : Str} {ts : List Tm} (one : tm.sz = 1) (e : tm = .deed f ts) (ht : t ∈ ts) : False := by
  rw [e, Tm.sz] at one
  have a := len_szs ts
  have b := List.length_pos_of_mem ht
  omega
def sp_grown (K : PySem.W.Frag) (n : Nat) : Sp := fun vs H Q _ => ∃ (p c : Addr) (t d : Nat) (sv : V) (sg : List (Str × Nat)) (la : Addr) (ls : List Str), vs = [.ref p, sv, .ref la, vi d] ∧ d < n ∧ Pur H p c t ∧ t + 3 * 2 ^ d ≤ 80000 ∧ FSig K H sv sg ∧ SigOk sg ∧ H la = some (.lst (ls.map V.str)) ∧ ls ≠ [] ∧ ls.length ≤ 6 ∧ (∀ x ∈ ls, x ∈ vars) ∧ la ≠ p ∧ la ≠ c ∧
  ∀ v tm t' H', Off H H' p c → Pur H' p c t' → t' + 2 ≤ t + 3 * 2 ^ d → TmV K H' tm v → tm.ok sg → tm.sz + 1 ≤ 2 ^ (d + 1) → tm.hgt ≤ d + 1 → (∀ x ∈ tm.ls, x ∈ ls) → (∀ f ts, tm = .deed f ts → ∀ t ∈ ts, t.sz + 1 ≤ 2 ^ d) → Q v H'
theorem c_grown (T : Txt mg) (D : Df K mg "_law_grown" s_grn ["_law_purse_here", "_law_deeds_here", "_law_chosen", "_law_deep"]) (c_draw : Cl P w K mg base 1 "_law_draw" sp_draw) (c_pick : Cl P w K mg base 2 "_law_pick" (sp_pick K)) : ∀ n : Nat, Cl P w K mg base (n + 3) "_law_grown" (sp_grown K n)
  | 0 => cl_of (k := 2) D sc_grn (fun vs H Q E h => by
      obtain ⟨p, c, t, d, sv, sg, la, ls, rfl, _⟩ := h
      rfl) (fun f cdv A outer s H vs Q E hr h => by
      obtain ⟨p, c, t, d, sv, sg, la, ls, _, bad, _⟩ := h
      exact absurd bad (Nat.not_lt_zero _))
  | n + 1 => by
    have c_rec := c_grown T D c_draw c_pick n
    refine cl_of (k := n + 3) D sc_grn (fun vs H Q E h => ?_) (fun f cdv A outer s H vs Q E hr h => ?_)
    · obtain ⟨p, c, t, d, sv, sg, la, ls, rfl, _⟩ := h
      rfl
    · obtain ⟨p, c, t, d, sv, sg, la, ls, rfl, dn, pu, big, hG, so, hla, lne, l6, sub, lap, lac, q⟩ := h
      refine ⟨_, (pss_cons (ps_if (PW.pt (pw_or (pt_cmpR op_lt (pv 3) pe_int (nomark _)) (pw_or1 (pt_cmpR op_eq (pe_cl c_draw hr (by first | decide | omega) (by rfl) (pa_cons (pv 0) (pa_cons pe_int pa_nil))) pe_int (nomark _)))))
        (pss_cons (ps_setLc (i := 4) (own := [("_law_name", 5), ("_law_places", 6)]) (g := (gTup _ 2 (gCons (gName 5) (gCons (gName 6) gNil)))) (by rfl) sc_grn.nd rfl rfl (sw_true rfl rfl rfl (by decide +kernel)) (pi_tup (pv 1)) (blkOk_by (own := [("_law_name", 5), ("_law_places", 6)]) (N := ["_law_purse_here", "_law_deeds_here", "_law_chosen", "_law_deep", "_law_bare", "_law_name", "_law_places", "_law_x", "_law_k"]) (sc := defScope s_grn) (by decide +kernel)) (fun _ _ _ _ _ => (pg_tup (by rfl) (pgs_cons (pg_name (i := 5) sc_grn.nd rfl (.inl rfl)) (pgs_cons (pg_name (i := 6) sc_grn.nd rfl (.inl rfl)) pgs_nil)))) (fun _ _ _ _ _ => (pts_one (pt_cmpR op_eq (pv 6) pe_int (nomark _)))) (fun _ _ _ _ _ => (pe_tup (pa_cons pe_str (pa_cons (pv 5) (pa_cons (pe_tup pa_nil) pa_nil))))))
        (pss_one (ps_ret (pe_cl c_pick hr (by first | decide | omega) (by rfl) (pa_cons (pv 0) (pa_cons (pe_op op_cat (pe_lc (own := [("_law_x", 7)]) (g := (gName 7)) (by rfl) sc_grn.nd (pi_list (pv 2)) (blkOk_by (own := [("_law_x", 7)]) (N := ["_law_purse_here", "_law_deeds_here", "_law_chosen", "_law_deep", "_law_bare", "_law_name", "_law_places", "_law_x", "_law_k"]) (sc := defScope s_grn) (by decide +kernel)) (fun _ _ _ _ _ => (pg_name (i := 7) sc_grn.nd rfl (.inl rfl))) (fun _ _ _ _ _ => pts_nil) (fun _ _ _ _ _ => (pe_tup (pa_cons pe_str (pa_cons (pv 7) pa_nil))))) (pv 4)) pa_nil))))))
        pss_nil)
      (pss_cons (ps_asg (pe_cl c_pick hr (by first | decide | omega) (by rfl) (pa_cons (pv 0) (pa_cons (pv 1) pa_nil))) (pg_tup (by rfl) (pgs_cons (pg_name (i := 5) sc_grn.nd rfl (.inl rfl)) (pgs_cons (pg_name (i := 6) sc_grn.nd rfl (.inl rfl)) pgs_nil))))
      (pss_one (ps_ret (pe_tup (pa_cons pe_str (pa_cons (pv 5) (pa_cons (pe_callTy call_tuple_of (by rfl) T.z_tuple (by decide +kernel) (pa_cons (pe_lc (own := [("_law_k", 8)]) (g := (gName 8)) (by rfl) sc_grn.nd (pi_range1 (by rfl) T.z_range (pa_cons (pv 6) pa_nil)) (blkOk_by (own := [("_law_k", 8)]) (N := ["_law_purse_here", "_law_deeds_here", "_law_chosen", "_law_deep", "_law_bare", "_law_name", "_law_places", "_law_x", "_law_k"]) (sc := defScope s_grn) (by decide +kernel)) (fun _ _ _ _ _ => (pg_name (i := 8) sc_grn.nd rfl (.inl rfl))) (fun _ _ _ _ _ => pts_nil) (fun _ _ _ _ _ => (pe_cl c_rec hr (by first | decide | omega) (by rfl) (pa_cons (pv 0) (pa_cons (pv 1) (pa_cons (pv 2) (pa_cons (pe_op op_sub (pv 3) pe_int) pa_nil))))))) pa_nil)) pa_nil)))))))), ?_⟩
      have pow1 : 1 ≤ 2 ^ d := Nat.pow_pos (by decide)
      refine do_when (do_leafTest (d := d) (et_is (et_test (ev_op (ev_var rfl) ev_c rv_I0)) (by show decide ((d : Int) < 1) = decide (d < 1); exact decide_eq_decide.mpr (by omega))) (fun H1 _ => ev_var rfl) (fun H1 _ => ev_c) (fun H1 => ev_c) pu (by omega) fun b H2 t2 o2 pu2 lt2 d0 bd => ?_)
      have hG2 : FSig K H2 sv sg := hG.off pu o2
      have hla2 : H2 la = some (.lst (ls.map V.str)) := o2 _ _ lap lac hla
      obtain ⟨sa, so1, ps, rfl, hsa, sod, prs⟩ := id hG2
      have sqS : SqT K H2 sa (ps.map V.ref) := .inl (.inr ⟨so1, hsa⟩)
      have lps := paired_len prs
      have sl1 := so.l1
      have sl4 := so.l4
      cases b with
      | true =>
        refine iteT ?_
        -- the deeds of no places
        refine do_set (do_lcG walk_tup (fun R r => w_tup (K := K) (xs := ps.map V.ref) (ev_var rfl) sqS H2 (Ex.refl _) R r) (fun D j H' => H2 D = none ∧ Ex H2 H' ∧ ∃ (ts : List Tm) (us : List V), H' D = some (.lst us) ∧ TmsV K H' ts us ∧ (∀ t ∈ ts, t.ok sg ∧ t.sz = 1 ∧ t.hgt ≤ 1 ∧ ∀ x ∈ t.ls, x ∈ ls) ∧ ts.length ≤ j)
          (fun D H3 e3 nD => ⟨fresh_back e3 nD, e3.trans (Ex.new nD), [], [], upd_same, by rw [TmsV], fun _ z => (nomatch z), Nat.le_refl _⟩) (fun D j H3 _ h => ex_t h.2.1 sqS) (fun D j x H3 H4 hj ⟨nD, e3, ts, us, hus, tms, oks1, lts⟩ y => ?_) (fun D H3 ⟨nD, e3, ts, us, hus, tms, oks1, lts⟩ => ?_))
        · obtain ⟨rfl, hx⟩ := y
          rw [List.length_map] at hj
          obtain ⟨r, er, hr'⟩ : ∃ r, ps[j]? = some r ∧ x = .ref r := by
            rw [List.getElem?_map, List.getElem?_eq_getElem hj] at hx
            exact ⟨_, List.getElem?_eq_getElem hj, (Option.some.inj hx).symm⟩
          subst hr'
          obtain ⟨dd, ed, hdd⟩ := paired_at prs er
          have ltu := tms.len
          refine ⟨r, _, rfl, ex_t e3 hdd, rfl, _, _, rfl, _, _, rfl, rfl, rfl, ?_⟩
          refine et_test (ev_op (ev_var rfl) ev_c (rv_eq rfl)) _ (Ex.refl _) _ fun H5 e5 => ?_
          by_cases p0 : dd.2 = 0
          · rw [show decide (vi dd.2 = V.int 0) = true from decide_eq_true (by rw [p0]; rfl)]
            refine iteT (do_tup (do_cons (do_ev ev_c fun H6 e6 => do_cons (do_ev (ev_var rfl) fun H7 e7 => do_cons (do_tup (do_nil ⟨Nat.zero_le _, fun r1 n1 => do_nil ⟨by show 3 ≤ sizeLine; decide, fun r2 n2 => ?_⟩⟩))))))
            have e57 := (e5.trans e6).trans e7
            have x8 : Ex H4 (upd (upd H7 r1 (.tup [])) r2 (.tup [.str "deed", .str dd.1, .ref r1])) := (e57.trans (Ex.new n1)).trans (Ex.new n2)
            have h2 : (upd (upd H7 r1 (.tup [])) r2 (.tup [.str "deed", .str dd.1, .ref r1])) r2 = some (.tup [.str "deed", .str dd.1, .ref r1]) := upd_same
            have h1 : (upd (upd H7 r1 (.tup [])) r2 (.tup [.str "deed", .str dd.1, .ref r1])) r1 = some (.tup []) := Ex.new n2 _ _ upd_same
            generalize upd (upd H7 r1 (.tup [])) r2 (.tup [.str "deed", .str dd.1, .ref r1]) = H8 at *
            have et9 : ET K H8 (upd H8 D (.lst (us ++ [.ref r2]))) := ET.refl.upd (x8 _ _ hus)
            refine ⟨us, x8 _ _ hus, sz_lt (by omega), nD, (e3.trans x8).mut nD, ts ++ [.deed dd.1 []], us ++ [.ref r2], upd_same, (tms.et (ET.trans (Dw.Ex.et x8) et9)).snoc (tmv_deed (et9 _ _ (st_of h2)) (et9 _ _ (st_of h1)) (by rw [TmsV])), fun t ht => ?_, by rw [List.length_append]; show ts.length + 1 ≤ j + 1; omega⟩
            rcases List.mem_append.mp ht with z | z
            · exact oks1 t z
            · rw [List.mem_singleton.mp z]
              refine ⟨?_, ?_, ?_, ?_⟩
              · rw [Tm.ok, oks]
                refine ⟨?_, trivial⟩
                have : (dd.1, ([] : List Tm).length) = dd := by
                  show (dd.1, 0) = dd
                  rw [← p0]
                rw [this]
                exact List.mem_iff_getElem?.mpr ⟨j, ed⟩
              · rw [Tm.sz, szs]
              · rw [Tm.hgt, hgts]
                exact Nat.le_refl _
              · intro x hx
                rw [Tm.ls, lss] at hx
                cases hx
          · rw [show decide (vi dd.2 = V.int 0) = false from decide_eq_false (fun z => p0 (by have := V.int.inj z; omega))]
            exact iteF ⟨nD, e3.trans e5, ts, us, e5 _ _ hus, tms.et (Dw.Ex.et e5), oks1, by omega⟩
        · rw [List.length_map] at lts
          have pu3 := pu2.ex e3
          have ltu := tms.len
          obtain ⟨Dp, Dc⟩ := pu2.fresh nD
          show tRet _ _ [some (.ref p), some (.ref sa), some (.ref la), some (vi d), some (.ref D), none, none, none, none] H3
          have sqA : SqL K H3 la (ls.map V.str) := sq_of (e3 _ _ hla2)
          refine do_ret (do_cons (do_ev (ev_var rfl) fun H4 e4 => do_cons (do_op ?_)))
          refine do_lcIt walk_list (fun R r => w_list (K := K) (xs := ls.map V.str) (ev_var rfl) (ex_l e4 sqA) H4 (Ex.refl _) R r) (fun D2 j H' => H4 D2 = none ∧ Ex H4 H' ∧ ∃ (ts2 : List Tm) (us2 : List V), H' D2 = some (.lst us2) ∧ TmsV K H' ts2 us2 ∧ (∀ t ∈ ts2, t.ok sg ∧ t.sz = 1 ∧ t.hgt ≤ 1 ∧ ∀ x ∈ t.ls, x ∈ ls) ∧ ts2.length = j)
            (fun D2 H5 e5 nD2 => ⟨fresh_back e5 nD2, e5.trans (Ex.new nD2), [], [], upd_same, by rw [TmsV], fun _ z => (nomatch z), rfl⟩) (fun D2 j H5 _ h => ex_l (e4.trans h.2.1) sqA) (fun D2 j x H5 H6 hj ⟨nD2, e5, ts2, us2, hus2, tms2, oks2, lts2⟩ y => ?_) (fun D2 H5 ⟨nD2, e5, ts2, us2, hus2, tms2, oks2, lts2⟩ => ?_)
          · obtain ⟨rfl, hx⟩ := y
            rw [List.length_map] at hj
            have ltu2 := tms2.len
            rw [List.getElem?_map, List.getElem?_eq_getElem hj] at hx
            cases Option.some.inj hx
            refine ⟨rfl, iteT (do_tup (do_cons (do_ev ev_c fun H7 e7 => do_cons (do_ev (ev_var rfl) fun H8 e8 => do_nil ⟨by show 2 ≤ sizeLine; decide, fun r2 n2 => ?_⟩))))⟩
            have x9 : Ex H6 (upd H8 r2 (.tup [.str "var", .str ls[j]])) := (e7.trans e8).trans (Ex.new n2)
            have h2 : (upd H8 r2 (.tup [.str "var", .str ls[j]])) r2 = some (.tup [.str "var", .str ls[j]]) := upd_same
            generalize upd H8 r2 (.tup [.str "var", .str ls[j]]) = H9 at *
            have et9 : ET K H9 (upd H9 D2 (.lst (us2 ++ [.ref r2]))) := ET.refl.upd (x9 _ _ hus2)
            refine ⟨us2, x9 _ _ hus2, sz_lt (by omega), nD2, (e5.trans x9).mut nD2, ts2 ++ [.var ls[j]], us2 ++ [.ref r2], upd_same, (tms2.et (ET.trans (Dw.Ex.et x9) et9)).snoc (tmv_var (et9 _ _ (st_of h2))), fun t ht => ?_, by rw [List.length_append, lts2]; rfl⟩
            rcases List.mem_append.mp ht with z | z
            · exact oks2 t z
            · rw [List.mem_singleton.mp z]
              exact ⟨by rw [Tm.ok]; exact sub _ (List.getElem_mem hj), by rw [Tm.sz], by rw [Tm.hgt]; exact Nat.zero_le _, fun x hx => by rw [Tm.ls, List.mem_singleton] at hx; rw [hx]; exact List.getElem_mem hj⟩
          · rw [List.length_map] at lts2
            have ltu2 := tms2.len
            have l1 : 1 ≤ ls.length := List.length_pos_iff.mpr lne
            have e35 := e4.trans e5
            refine do_ev (ev_var rfl) fun H6 e6 => ⟨D2, D, us2, us, rfl, rfl, e6 _ _ hus2, (e35.trans e6) _ _ hus, sz_of (by omega), fun r nr => ?_⟩
            have x7 : Ex H3 (upd H6 r (.lst (us2 ++ us))) := (e35.trans e6).trans (Ex.new nr)
            have x57 : Ex H5 (upd H6 r (.lst (us2 ++ us))) := e6.trans (Ex.new nr)
            have hr7 : (upd H6 r (.lst (us2 ++ us))) r = some (.lst (us2 ++ us)) := upd_same
            have nr3 : H3 r = none := fresh_back (e35.trans e6) nr
            obtain ⟨rp, rc⟩ := pu3.fresh nr3
            generalize upd H6 r (.lst (us2 ++ us)) = H7 at *
            refine do_nil ⟨p, c, t2, pu3.ex x7, by omega, .inr ⟨r, us2 ++ us, rfl, .inl (sq_of hr7), rp, rc, by rw [List.length_append]; omega, by rw [List.length_append]; omega, fun k x H8 hx o8 pu8 => ?_⟩⟩
            have all : TmsV K H7 (ts2 ++ ts) (us2 ++ us) := (tms2.et (Dw.Ex.et x57)).app (tms.et (Dw.Ex.et x7))
            obtain ⟨tm, htm, tv⟩ := all.get hx
            have okm : tm.ok sg ∧ tm.sz = 1 ∧ tm.hgt ≤ 1 ∧ ∀ x ∈ tm.ls, x ∈ ls := by
              rcases List.mem_append.mp (List.mem_iff_getElem?.mpr ⟨k, htm⟩) with z | z
              · exact oks2 tm z
              · exact oks1 tm z
            have p2 : 2 ≤ 2 ^ (d + 1) := by rw [Nat.pow_succ]; omega
            refine q x tm (t2 + 1) H8 (((o2.trans (.of_ex e3)).trans (.of_ex x7)).trans o8) pu8 ?_ (tv.et (o8.et (pu3.ex x7))) okm.1 (by rw [okm.2.1]; exact p2) (Nat.le_trans okm.2.2.1 (by omega)) okm.2.2.2 (fun f ts e t ht => (leaf_kids okm.2.1 e ht).elim)
            by_cases z : d = 0
            · subst z
              rw [d0 rfl]
              show t + 1 + 2 ≤ t + 3 * 1
              omega
            · have : 2 ≤ 2 ^ d := by
                have : 2 ^ 1 ≤ 2 ^ d := Nat.pow_le_pow_right (by decide) (by omega)
                exact this
              omega
      | false =>
        refine iteF ?_
        have d1 : 1 ≤ d := bd rfl
        obtain ⟨d', rfl⟩ : ∃ d', d = d' + 1 := ⟨d - 1, by omega⟩
        have pd : 2 ^ (d' + 1) = 2 * 2 ^ d' := by rw [Nat.pow_succ, Nat.mul_comm]
        have pd2 : 2 ^ (d' + 1 + 1) = 2 * 2 ^ (d' + 1) := by rw [Nat.pow_succ, Nat.mul_comm]
        have q1 : 1 ≤ 2 ^ d' := Nat.pow_pos (by decide)
        have sap : sa ≠ p := fun e => by
          rw [e, pu2.1] at hsa
          cases hsa
        have sac : sa ≠ c := fun e => by
          obtain ⟨_, cs, _, _, h3⟩ := pu2
          rw [e, h3] at hsa
          cases hsa
        refine do_setG ?_
        refine do_cons (do_ev (ev_var rfl) fun H3 e3 => do_cons (do_ev (ev_var rfl) fun H4 e4 => do_nil ⟨p, c, t2, pu2.ex (e3.trans e4), by omega, .inr ⟨sa, ps.map V.ref, rfl, .inr (ex_t (e3.trans e4) sqS), sap, sac, by rw [List.length_map]; omega, by rw [List.length_map]; omega, fun k x H5 hx o5 pu5 => ?_⟩⟩))
        have o25 : Off H2 H5 p c := (Off.of_ex (e3.trans e4)).trans o5
        obtain ⟨r, er, hr'⟩ : ∃ r, ps[k]? = some r ∧ x = .ref r := by
          rw [List.getElem?_map] at hx
          cases hk : ps[k]? with
          | none =>
            rw [hk] at hx
            cases hx
          | some r =>
            rw [hk] at hx
            exact ⟨r, rfl, (Option.some.inj hx).symm⟩
        subst hr'
        obtain ⟨dd, ed, hdd⟩ := paired_at prs er
        have memd : dd ∈ sg := List.mem_iff_getElem?.mpr ⟨k, ed⟩
        have pl2 : dd.2 ≤ 2 := so.pl _ memd
        refine ⟨r, _, rfl, o25.et pu2 _ _ hdd, rfl, _, _, rfl, _, _, rfl, rfl, ?_⟩
        show tRet _ _ [some (.ref p), some (.ref sa), some (.ref la), some (vi (d' + 1)), none, some (.str dd.1), some (vi dd.2), none, none] H5
        refine do_ret (do_tup (do_cons (do_ev ev_c fun H6 e6 => do_cons (do_ev (ev_var rfl) fun H7 e7 => do_cons (do_cb (do_cons ?_))))))
        have e57 := e6.trans e7
        have pu7 := pu5.ex e57
        have o27 : Off H2 H7 p c := o25.trans (.of_ex e57)
        have hG7 : FSig K H7 (.ref sa) sg := hG2.off pu2 o27
        have hla7 : H7 la = some (.lst (ls.map V.str)) := o27 _ _ lap lac hla2
        refine do_lcIt walk_range (fun R r => w_rng (n := dd.2) (ea_cons (ev_var rfl) ea_nil) (by omega) H7 (Ex.refl _) R r) (fun D j H' => H7 D = none ∧ Off H7 H' p c ∧ (∃ t', Pur H' p c t' ∧ t' + 2 * j ≤ t2 + 1 + j * (3 * 2 ^ d')) ∧ ∃ (ts : List Tm) (us : List V), H' D = some (.lst us) ∧ TmsV K H' ts us ∧ ts.length = j ∧ (∀ t ∈ ts, t.ok sg ∧ t.hgt ≤ d' + 1 ∧ t.sz + 1 ≤ 2 ^ (d' + 1) ∧ ∀ x ∈ t.ls, x ∈ ls) ∧ szs ts + j ≤ j * 2 ^ (d' + 1))
          (fun D H8 e8 nD => ⟨fresh_back e8 nD, .of_ex (e8.trans (Ex.new nD)), ⟨_, pu7.ex (e8.trans (Ex.new nD)), by omega⟩, [], [], upd_same, by rw [TmsV], rfl, fun _ z => (nomatch z), by rw [szs]; omega⟩) (fun _ _ _ _ _ => trivial) (fun D j x H8 H9 hj ⟨nD, o8, ⟨t8, pu8, lt8⟩, ts, us, hus, tms, lts, okts, sts⟩ y => ?_) (fun D H8 ⟨nD, o8, ⟨t8, pu8, lt8⟩, ts, us, hus, tms, lts, okts, sts⟩ => ?_)
        · obtain ⟨rfl, rfl⟩ := y
          obtain ⟨Dp, Dc⟩ := pu7.fresh nD
          have ltu := tms.len
          have j2 : j < 2 := by omega
          have bnd : t8 + 3 * 2 ^ d' ≤ 80000 ∧ t8 ≤ t2 + 1 + 3 * 2 ^ d' := by
            have : j = 0 ∨ j = 1 := by omega
            rcases this with e | e <;> subst e <;> omega
          refine ⟨rfl, iteT (do_cons (do_ev (ev_var rfl) fun H10 e10 => do_cons (do_ev (ev_var rfl) fun H11 e11 => do_cons (do_ev (ev_var rfl) fun H12 e12 => do_cons (do_ev (v := vi d') (ev_is (ev_subM (a := d' + 1) (b := 1) (ev_var rfl) ev_c (by omega)) rfl) fun H13 e13 => do_nil ?_)))))⟩
          have e913 := ((e10.trans e11).trans e12).trans e13
          have o713 : Off H7 H13 p c := o8.trans (.of_ex e913)
          refine ⟨p, c, t8, d', .ref sa, sg, la, ls, rfl, by omega, pu8.ex e913, bnd.1, hG7.off pu7 o713, so, o713 _ _ lap lac hla7, lne, l6, sub, lap, lac, fun v tm t14 H14 o14 pu14 lt14 tv okt szt hgt lin kid => ?_⟩
          have o914 : Off H9 H14 p c := (Off.of_ex e913).trans o14
          have hus14 : H14 D = some (.lst us) := o914 _ _ Dp Dc hus
          have et15 : ET K H14 (upd H14 D (.lst (us ++ [v]))) := ET.refl.upd hus14
          refine ⟨us, hus14, sz_lt (by omega), nD, (o8.trans o914).upd nD, ⟨t14, pu14.upd Dp Dc, by rw [Nat.add_mul, Nat.one_mul]; omega⟩, ts ++ [tm], us ++ [v], upd_same, (tms.et (ET.trans (o914.et pu8) et15)).snoc (tv.et et15), by rw [List.length_append, lts]; rfl, fun t ht => ?_, ?_⟩
          · rcases List.mem_append.mp ht with z | z
            · exact okts t z
            · rw [List.mem_singleton.mp z]
              exact ⟨okt, hgt, szt, lin⟩
          · rw [szs_app, szs, szs, Nat.add_mul, Nat.one_mul]
            omega
        · refine ⟨D, us, rfl, .inl ⟨sq_of hus, fun r1 n1 => do_nil ⟨by show 3 ≤ sizeLine; decide, fun r2 n2 => ?_⟩⟩⟩
          have x9 : Ex H8 (upd (upd H8 r1 (.tup us)) r2 (.tup [.str "deed", .str dd.1, .ref r1])) := (Ex.new n1).trans (Ex.new n2)
          have h2 : (upd (upd H8 r1 (.tup us)) r2 (.tup [.str "deed", .str dd.1, .ref r1])) r2 = some (.tup [.str "deed", .str dd.1, .ref r1]) := upd_same
          have h1 : (upd (upd H8 r1 (.tup us)) r2 (.tup [.str "deed", .str dd.1, .ref r1])) r1 = some (.tup us) := Ex.new n2 _ _ upd_same
          generalize upd (upd H8 r1 (.tup us)) r2 (.tup [.str "deed", .str dd.1, .ref r1]) = H9 at *
          have alls : ∀ (ts : List Tm), (∀ t ∈ ts, t.ok sg) → oks sg ts := by
            intro ts
            induction ts with
            | nil => intro _; rw [oks]; trivial
            | cons t ts ih =>
              intro h
              rw [oks]
              exact ⟨h t (List.mem_cons_self ..), ih fun x hx => h x (List.mem_cons_of_mem _ hx)⟩
          refine q _ (.deed dd.1 ts) t8 H9 ((o2.trans (o27.trans o8)).trans (.of_ex x9)) (pu8.ex x9) ?_ (tmv_deed (st_of h2) (st_of h1) (tms.et (Dw.Ex.et x9))) ?_ ?_ ?_ ?_ (fun f ts' e t ht => by cases e; exact (okts t ht).2.2.1)
          · rw [pd]
            have : dd.2 = 0 ∨ dd.2 = 1 ∨ dd.2 = 2 := by omega
            rcases this with e | e | e <;> rw [e] at lt8 <;> omega
          · rw [Tm.ok, lts]
            exact ⟨memd, alls ts fun t ht => (okts t ht).1⟩
          · rw [Tm.sz, pd2]
            have : dd.2 = 0 ∨ dd.2 = 1 ∨ dd.2 = 2 := by omega
            have q2 : 1 ≤ 2 ^ (d' + 1) := Nat.pow_pos (by decide)
            rcases this with e | e | e <;> rw [e] at sts <;> omega
          · rw [Tm.hgt]
            have := hgts_le fun t ht => (okts t ht).2.1
            omega
          · intro x hx
            rw [Tm.ls] at hx
            obtain ⟨t, ht, hx2⟩ := mem_lss hx
            exact (okts t ht).2.2.2 x hx2
end
end K02
end
section
namespace K02
open PySem PySem.Spec PyProof.Rows L2 Evl RZ Dw M20
section
variable {P : Program} {w : World} {K : PySem.W.Frag} {mg : Str → Option Value} {base : Heap}
end
end K02
end
section
namespace K02
open PySem PySem.Spec PyProof.Rows L2 Evl RZ Dw M20
section
variable {K : PySem.W.Frag} {σ : L2.St} {H : Hp} {te tl : TE} {tt : TT} {D : Ends} {tu tz : TS} {g : TG}
end
section
variable {P : Program} {w : World} {K : PySem.W.Frag} {mg : Str → Option Value} {base : Heap}
/-! ### the law's own worth -/
/-! ### rows -/
/-! ### letters met -/
end
end K02
end
section
namespace K02
open PySem PySem.Spec PyProof.Rows L2 Evl RZ Dw M20
/-! ### rows and columns -/
/-! ### more data -/
theorem dps_vi {K : PySem.W.Frag} {H : Hp} : ∀ ks : List Nat, DpAll K H (ks.map vi) (ks.map fun k => .int ((k : Nat) : Int))
  | [] => .nil
  | k :: ks => .cons (.int _) (dps_vi ks)
section
variable {K : PySem.W.Frag} {σ : L2.St} {H : Hp} {ta tb te tl : TE} {P R : V → Hp → Prop} {z : V} {D : Ends} {tu tz : TS}
end
section
variable {P : Program} {w : World} {K : PySem.W.Frag} {mg : Str → Option Value} {base : Heap}
end
end K02
end
section
namespace K02
open PySem PySem.Spec PyProof.Rows L2 Evl RZ Dw M20
/-- the row of numbers at a place -/
def rowAt (n m r : Nat) : List Nat := (List.range m).map fun i => r / n ^ (m - 1 - i) % n
section
variable {P : Program} {w : World} {K : PySem.W.Frag} {mg : Str → Option Value} {base : Heap}
end
end K02
end
section
namespace K02
open PySem PySem.Spec PyProof.Rows L2 Evl RZ Dw M20
section
variable {P : Program} {w : World} {K : PySem.W.Frag} {mg : Str → Option Value} {base : Heap}
end
end K02
end
section
namespace K02
open PySem PySem.Spec PyProof.Rows L2 Evl RZ Dw M20
/-! equations -/
structure Eqn where
  l : Tm
  r : Tm
/-- both sides under one roof -/
def Eqn.tm (e : Eqn) : Tm := .deed "" [e.l, e.r]
def EqV (K : PySem.W.Frag) (H : Hp) (v : V) (e : Eqn) : Prop := ∃ a u1 u2, v = .ref a ∧ SqT K H a [u1, u2] ∧ TmV K H e.l u1 ∧ TmV K H e.r u2
theorem EqV.et {K : PySem.W.Frag} {H H' : Hp} {v : V} {e : Eqn} (x : ET K H H') (h : EqV K H v e) : EqV K H' v e := let ⟨a, u1, u2, q, s, t1, t2⟩ := h; ⟨a, u1, u2, q, x _ _ s, t1.et x, t2.et x⟩
theorem EqV.ex {K : PySem.W.Frag} {H H' : Hp} {v : V} {e : Eqn} (x : Ex H H') (h : EqV K H v e) : EqV K H' v e := h.et (Dw.Ex.et x)
structure EqOk (sg : List (Str × Nat)) (e : Eqn) : Prop where
  okl : e.l.ok sg
  okr : e.r.ok sg
  fewl : e.l.sz ≤ 12
  fewr : e.r.sz ≤ 12
  l4 : (inner e.tm).length ≤ 4
theorem EqOk.sub {sg : List (Str × Nat)} {e : Eqn} (h : EqOk sg e) : ∀ x ∈ e.tm.ls, x ∈ vars := by
  intro x hx
  rw [Eqn.tm, Tm.ls, lss, lss, lss, List.append_nil, List.mem_append] at hx
  rcases hx with z | z
  · exact ls_vars _ h.okl x z
  · exact ls_vars _ h.okr x z
section
variable {P : Program} {w : World} {K : PySem.W.Frag} {mg : Str → Option Value} {base : Heap} {σ : L2.St} {H : Hp}
theorem FStrs.sq {v : V} {ls : List Str} (h : FStrs H v ls) : ∃ a, v = .ref a ∧ SqT K H a (ls.map V.str) := let ⟨a, o, q, s, _⟩ := h; ⟨a, q, .inl (.inr ⟨o, s⟩)⟩
/-- equations in a tuple, a kind -/
def EqsV (K : PySem.W.Frag) (H : Hp) (b : Addr) (es : List Eqn) : Prop := ∃ us, SqT K H b us ∧ Paired (fun u e => EqV K H u e) us es
theorem EqsV.ex {H H' : Hp} {b : Addr} {es : List Eqn} (x : Ex H H') (h : EqsV K H b es) : EqsV K H' b es := let ⟨us, s, p⟩ := h; ⟨us, ex_t x s, paired_imp (fun _ _ z => z.ex x) p⟩
def KindV (K : PySem.W.Frag) (H : Hp) (v : V) (sg : List (Str × Nat)) (es : List Eqn) : Prop := ∃ a u b, v = .ref a ∧ SqT K H a [u, .ref b] ∧ FSig K H u sg ∧ EqsV K H b es
theorem KindV.ex {H H' : Hp} {v : V} {sg : List (Str × Nat)} {es : List Eqn} (x : Ex H H') (h : KindV K H v sg es) : KindV K H' v sg es := let ⟨a, u, b, q, s, f, e⟩ := h; ⟨a, u, b, q, ex_t x s, f.ex x, e.ex x⟩
end
end K02
end
section
namespace K02
open PySem PySem.Spec PyProof.Rows L2 Evl RZ Dw M20
structure UArg where
  sg : List (Str × Nat)
  n : Nat
  tbs : List (List Nat)
  e : Eqn
def UArg.ls (p : UArg) : List Str := inner p.e.tm
def UArg.m (p : UArg) : Nat := p.ls.length
def UArg.lc (p : UArg) : CArg := ⟨p.sg, p.n, p.tbs, p.e.l, p.ls⟩
def UArg.rc (p : UArg) : CArg := ⟨p.sg, p.n, p.tbs, p.e.r, p.ls⟩
def UArg.odd (p : UArg) (r : Nat) : Bool := !decide (p.lc.at r = p.rc.at r)
/-- the places at which the sides are unlike -/
def UArg.unl (p : UArg) : List Nat := (List.range (p.n ^ p.m)).filter p.odd
structure UOk (p : UArg) : Prop where
  so : SigOk p.sg
  mo : MdlOk p.sg p.n p.tbs
  eo : EqOk p.sg p.e
theorem UOk.lc {p : UArg} (h : UOk p) : COk 12 p.lc := ⟨h.so, h.mo, h.eo.okl, fun x hx => (mem_inner h.eo.sub).mpr (by rw [Eqn.tm, Tm.ls, lss]; exact List.mem_append_left _ hx), h.eo.l4, h.eo.fewl⟩
theorem UOk.rc {p : UArg} (h : UOk p) : COk 12 p.rc := ⟨h.so, h.mo, h.eo.okr, fun x hx => (mem_inner h.eo.sub).mpr (by rw [Eqn.tm, Tm.ls, lss, lss, lss, List.append_nil]; exact List.mem_append_right _ hx), h.eo.l4, h.eo.fewr⟩
section
variable {P : Program} {w : World} {K : PySem.W.Frag} {mg : Str → Option Value} {base : Heap} {σ : L2.St} {H : Hp}
end
end K02
end
section
namespace K02
open PySem PySem.Spec PyProof.Rows L2 Evl RZ Dw M20
def UArg.bad (p : UArg) : Option (List Nat) := p.unl.head?.map (rowAt p.n p.m)
structure KArg where
  sg : List (Str × Nat)
  n : Nat
  tbs : List (List Nat)
  es : List Eqn
def KArg.u (p : KArg) (e : Eqn) : UArg := ⟨p.sg, p.n, p.tbs, e⟩
def KArg.bs (p : KArg) : List (Option (List Nat)) := p.es.map fun e => (p.u e).bad
structure KOk (p : KArg) : Prop where
  so : SigOk p.sg
  mo : MdlOk p.sg p.n p.tbs
  l8 : p.es.length ≤ 8
  eo : ∀ e ∈ p.es, EqOk p.sg e
theorem KOk.u {p : KArg} (h : KOk p) {i : Nat} (hi : i < p.es.length) : UOk (p.u p.es[i]) := ⟨h.so, h.mo, h.eo _ (List.getElem_mem hi)⟩
section
variable {P : Program} {w : World} {K : PySem.W.Frag} {mg : Str → Option Value} {base : Heap} {σ : L2.St} {H : Hp}
/-- equations in a list -/
def EqsL (K : PySem.W.Frag) (H : Hp) (v : V) (es : List Eqn) : Prop := ∃ l us, v = .ref l ∧ H l = some (.lst us) ∧ Paired (fun u e => EqV K H u e) us es
theorem EqsL.ex {H H' : Hp} {v : V} {es : List Eqn} (x : Ex H H') (h : EqsL K H v es) : EqsL K H' v es := let ⟨l, us, q, s, p⟩ := h; ⟨l, us, q, x _ _ s, paired_imp (fun _ _ z => z.ex x) p⟩
end
end K02
end
section
namespace K02
open PySem PySem.Spec PyProof.Rows L2 Evl RZ Dw M20
/-! ### terms as data -/
mutual
def Tm.data : Tm → PyData
  | .var x => .tuple [.str "var", .str x]
  | .deed f ts => .tuple [.str "deed", .str f, .tuple (datas ts)]
def datas : List Tm → List PyData
  | [] => []
  | t :: ts => t.data :: datas ts
end
mutual
theorem TmV.dp {K : PySem.W.Frag} {H : Hp} : ∀ {t : Tm} {v : V}, TmV K H t v → Dp K H v t.data
  | .var x, v, h => by
    rw [TmV] at h
    obtain ⟨a, rfl, s⟩ := h
    rw [Tm.data]
    exact .tup s (.cons (.str _) (.cons (.str _) .nil))
  | .deed f ts, v, h => by
    rw [TmV] at h
    obtain ⟨a, b, vs, rfl, s, s2, r⟩ := h
    rw [Tm.data]
    exact .tup s (.cons (.str _) (.cons (.str _) (.cons (.tup s2 (TmsV.dp r)) .nil)))
theorem TmsV.dp {K : PySem.W.Frag} {H : Hp} : ∀ {ts : List Tm} {vs : List V}, TmsV K H ts vs → DpAll K H vs (datas ts)
  | [], vs, h => by
    rw [TmsV] at h
    subst h
    rw [datas]
    exact .nil
  | t :: ts, vs, h => by
    rw [TmsV] at h
    obtain ⟨v, us, rfl, a, b⟩ := h
    rw [datas]
    exact .cons (TmV.dp a) (TmsV.dp b)
end
theorem gd_strB {z : Str} (h : ∀ c ∈ z.cps.toList, c < 0x110000) (l : z.cps.size ≤ 4) : Gd 0 4 (.str z) := by
  have g := gd_str h (Nat.le_trans l (by decide))
  exact ⟨g.lay, g.dep, by rw [PyData.weight]; exact l, g.its, g.sho⟩
theorem vars_cps4 : ∀ z ∈ vars, (∀ c ∈ z.cps.toList, c < 0x110000) ∧ z.cps.size ≤ 4 := by decide +kernel
theorem name_cps {z : Str} (h : Name z) : ∀ c ∈ z.cps.toList, c < 0x110000 := fun c hc => by
  have all : ∀ c ∈ letters.cps.toList, c < 0x110000 := by decide
  exact all c (h.abc c hc)
theorem SigOk.gdS {sg : List (Str × Nat)} (so : SigOk sg) : Gd 2 812 (dS sg) := gd_sig (fun p hp => ⟨name_cps (so.nm p hp), Nat.le_trans (so.nm p hp).l4 (by decide), Nat.le_trans (so.pl p hp) (by decide)⟩) so.l4
def Eqn.data (e : Eqn) : PyData := .tuple [e.l.data, e.r.data]
theorem EqV.dp {K : PySem.W.Frag} {H : Hp} {v : V} {e : Eqn} (h : EqV K H v e) : Dp K H v e.data := by
  obtain ⟨a, u1, u2, rfl, s, t1, t2⟩ := h
  exact .tup s (.cons (TmV.dp t1) (.cons (TmV.dp t2) .nil))
end K02
end
section
namespace K02
open PySem PySem.Spec PyProof.Rows L2 Evl RZ Dw M20
section
variable {P : Program} {w : World} {K : PySem.W.Frag} {mg : Str → Option Value} {base : Heap} {σ : L2.St} {H : Hp}
end
end K02
end
section
namespace K02
open PySem PySem.Spec PyProof.Rows L2 Evl RZ Dw M20
/-! ### terms with their variables exchanged -/
mutual
def Tm.put (f : Str → Tm) : Tm → Tm
  | .var x => f x
  | .deed g ts => .deed g (puts f ts)
def puts (f : Str → Tm) : List Tm → List Tm
  | [] => []
  | t :: ts => t.put f :: puts f ts
end
def rn (w : Str → Str) : Str → Tm := fun x => .var (w x)
theorem puts_map (f : Str → Tm) : ∀ ts : List Tm, puts f ts = ts.map (Tm.put f)
  | [] => by rw [puts]; rfl
  | t :: ts => by rw [puts, puts_map f ts]; rfl
mutual
theorem ls_rn {w : Str → Str} : ∀ t : Tm, (t.put (rn w)).ls = t.ls.map w
  | .var x => by rw [Tm.put, rn, Tm.ls, Tm.ls]; rfl
  | .deed n ts => by rw [Tm.put, Tm.ls, Tm.ls, lss_rn ts]
theorem lss_rn {w : Str → Str} : ∀ ts : List Tm, lss (puts (rn w) ts) = (lss ts).map w
  | [] => by rw [puts, lss]; rfl
  | t :: ts => by rw [puts, lss, lss, ls_rn t, lss_rn ts, List.map_append]
end
mutual
theorem sz_rn {w : Str → Str} : ∀ t : Tm, (t.put (rn w)).sz = t.sz
  | .var x => by rw [Tm.put, rn, Tm.sz, Tm.sz]
  | .deed n ts => by rw [Tm.put, Tm.sz, Tm.sz, szs_rn ts]
theorem szs_rn {w : Str → Str} : ∀ ts : List Tm, szs (puts (rn w) ts) = szs ts
  | [] => by rw [puts]
  | t :: ts => by rw [puts, szs, szs, sz_rn t, szs_rn ts]
end
theorem puts_len {f : Str → Tm} (ts : List Tm) : (puts f ts).length = ts.length := by rw [puts_map, List.length_map]
mutual
theorem ok_rn {sg : List (Str × Nat)} {w : Str → Str} : ∀ t : Tm, t.ok sg → (∀ x ∈ t.ls, w x ∈ vars) → (t.put (rn w)).ok sg
  | .var x, _, h => by
    rw [Tm.put, rn, Tm.ok]
    exact h x (by rw [Tm.ls]; exact List.mem_singleton.mpr rfl)
  | .deed n ts, ok, h => by
    rw [Tm.ok] at ok
    rw [Tm.put, Tm.ok, puts_len]
    exact ⟨ok.1, oks_rn ts ok.2 (fun x hx => h x (by rw [Tm.ls]; exact hx))⟩
theorem oks_rn {sg : List (Str × Nat)} {w : Str → Str} : ∀ ts : List Tm, oks sg ts → (∀ x ∈ lss ts, w x ∈ vars) → oks sg (puts (rn w) ts)
  | [], _, _ => by
    rw [puts, oks]
    trivial
  | t :: ts, ok, h => by
    rw [oks] at ok
    rw [puts, oks]
    exact ⟨ok_rn t ok.1 (fun x hx => h x (by rw [lss]; exact List.mem_append_left _ hx)), oks_rn ts ok.2 (fun x hx => h x (by rw [lss]; exact List.mem_append_right _ hx))⟩
end
/-! ### the order in which letters first come -/
def InjOn (w : Str → Str) (xs : List Str) : Prop := ∀ x ∈ xs, ∀ y ∈ xs, w x = w y → x = y
theorem fold_map {w : Str → Str} : ∀ (xs ks : List Str), InjOn w (ks ++ xs) → (xs.map w).foldl addK (ks.map w) = (xs.foldl addK ks).map w
  | [], ks, _ => rfl
  | x :: xs, ks, h => by
    rw [List.map_cons, List.foldl_cons, List.foldl_cons]
    have e : addK (ks.map w) (w x) = (addK ks x).map w := by
      unfold addK
      by_cases m : x ∈ ks
      · rw [if_pos m, if_pos (List.mem_map_of_mem m)]
      · rw [if_neg m, if_neg (fun z => ?_), List.map_append]
        · rfl
        · obtain ⟨y, hy, ey⟩ := List.mem_map.mp z
          exact m (h y (List.mem_append_left _ hy) x (by simp) ey ▸ hy)
    rw [e]
    refine fold_map xs (addK ks x) fun a ha b hb => h a ?_ b ?_
    · rcases List.mem_append.mp ha with z | z
      · unfold addK at z
        split at z
        · exact List.mem_append_left _ z
        · rcases List.mem_append.mp z with z | z
          · exact List.mem_append_left _ z
          · rw [List.mem_singleton.mp z]; simp
      · simp [z]
    · rcases List.mem_append.mp hb with z | z
      · unfold addK at z
        split at z
        · exact List.mem_append_left _ z
        · rcases List.mem_append.mp z with z | z
          · exact List.mem_append_left _ z
          · rw [List.mem_singleton.mp z]; simp
      · simp [z]
theorem firsts_map {w : Str → Str} {xs : List Str} (h : InjOn w xs) : firsts (xs.map w) = (firsts xs).map w := fold_map xs [] h
def posS : List Str → Str → Nat
  | [], _ => 0
  | k :: r, x => if x = k then 0 else posS r x + 1
theorem posS_get {x : Str} : ∀ {ks : List Str}, x ∈ ks → ks[posS ks x]? = some x
  | [], h => nomatch h
  | k :: r, h => by
    show (k :: r)[if x = k then 0 else posS r x + 1]? = some x
    by_cases e : x = k
    · rw [if_pos e, e]
      rfl
    · rw [if_neg e]
      rcases List.mem_cons.mp h with z | z
      · exact absurd z e
      · exact posS_get z
theorem posS_of {ks : List Str} (nd : ks.Nodup) {i : Nat} {x : Str} (h : ks[i]? = some x) : posS ks x = i := by
  have g := posS_get (List.mem_iff_getElem?.mpr ⟨i, h⟩)
  obtain ⟨a, ea⟩ := List.getElem?_eq_some_iff.mp h
  obtain ⟨b, eb⟩ := List.getElem?_eq_some_iff.mp g
  exact (List.getElem_inj nd).mp (eb.trans ea.symm)
/-- the i-th letter for the i-th one -/
def cw (ks : List Str) (x : Str) : Str := vars.getD (posS ks x) "u"
theorem cw_get {ks : List Str} {x : Str} {i : Nat} (nd : ks.Nodup) (h : ks[i]? = some x) (l : ks.length ≤ 6) : vars[i]? = some (cw ks x) := by
  unfold cw
  rw [posS_of nd h]
  have hi : i < 6 := Nat.lt_of_lt_of_le (List.getElem?_eq_some_iff.mp h).1 l
  have hv : i < vars.length := hi
  rw [List.getElem?_eq_getElem hv, List.getD_eq_getElem?_getD, List.getElem?_eq_getElem hv]
  rfl
theorem cw_mem {ks : List Str} {x : Str} (l : ks.length ≤ 6) (h : x ∈ ks) (nd : ks.Nodup) : cw ks x ∈ vars := List.mem_iff_getElem?.mpr ⟨_, cw_get nd (posS_get h) l⟩
theorem cw_inj {ks : List Str} (nd : ks.Nodup) (l : ks.length ≤ 6) : InjOn (cw ks) ks := fun x hx y hy e => by
  have a := cw_get nd (posS_get hx) l
  have b := cw_get nd (posS_get hy) l
  rw [e] at a
  obtain ⟨p, ep⟩ := List.getElem?_eq_some_iff.mp a
  obtain ⟨q, eq⟩ := List.getElem?_eq_some_iff.mp b
  have i : posS ks x = posS ks y := (List.getElem_inj vars_nd).mp (ep.trans eq.symm)
  have g := posS_get hx
  rw [i, posS_get hy] at g
  exact (Option.some.inj g).symm
/-! ### equations by other letters -/
def Eqn.ls (e : Eqn) : List Str := e.l.ls ++ e.r.ls
def Eqn.names (e : Eqn) : List Str := firsts e.ls
def Eqn.rn (w : Str → Str) (e : Eqn) : Eqn := ⟨e.l.put (K02.rn w), e.r.put (K02.rn w)⟩
def Eqn.can (e : Eqn) : Eqn := e.rn (cw e.names)
theorem Eqn.ls_rn {e : Eqn} {w : Str → Str} : (e.rn w).ls = e.ls.map w := by
  unfold Eqn.ls Eqn.rn
  rw [K02.ls_rn, K02.ls_rn, List.map_append]
theorem Eqn.names_rn {e : Eqn} {w : Str → Str} (h : InjOn w e.ls) : (e.rn w).names = e.names.map w := by
  unfold Eqn.names
  rw [Eqn.ls_rn, firsts_map h]
theorem Eqn.names_nd (e : Eqn) : e.names.Nodup := firsts_nd _
theorem Eqn.mem_names {e : Eqn} {x : Str} : x ∈ e.names ↔ x ∈ e.ls := mem_firsts
theorem InjOn.cw {e : Eqn} (l : e.names.length ≤ 6) : InjOn (cw e.names) e.ls := fun x hx y hy => cw_inj e.names_nd l x (Eqn.mem_names.mpr hx) y (Eqn.mem_names.mpr hy)
/-- back from the letters: what is the same by its letters is led over by the names, one by one -/
def back (ks : List Str) (z : Str) : Str := ks.getD (posS vars z) "u"
end K02
end
section
namespace K02
open PySem PySem.Spec PyProof.Rows L2 Evl RZ Dw M20
/-! ### texts of terms -/
mutual
def Tm.tx : Tm → Str
  | .var x => x
  | .deed f [] => f
  | .deed f (t :: ts) => ((f ++ ("(" : Str)) ++ Str.join (", " : Str) (t.tx :: txs ts)) ++ (")" : Str)
def txs : List Tm → List Str
  | [] => []
  | t :: ts => t.tx :: txs ts
end
def cl (s : Str) : List Nat := s.cps.toList
def isL (c : Nat) : Prop := 97 ≤ c ∧ c ≤ 122
/-! ### the lesser one of an equation and the one turned about -/
def Eqn.tx (e : Eqn) : Str := (e.l.tx ++ (" = " : Str)) ++ e.r.tx
def Eqn.ahead (a b : Eqn) : Bool := !decide (cl b.tx < cl a.tx)
end K02
end
section
namespace K02
open PySem PySem.Spec PyProof.Rows L2 Evl RZ Dw M20
theorem Eqn.mem_tm {e : Eqn} {x : Str} : x ∈ e.tm.ls ↔ x ∈ e.ls := by
  rw [Eqn.tm, Tm.ls, lss, lss, lss, List.append_nil]
  rfl
theorem Eqn.inner_perm {e : Eqn} (sub : ∀ x ∈ e.ls, x ∈ vars) : (inner e.tm).Perm e.names := by
  refine (List.perm_ext_iff_of_nodup (inner_nd _) e.names_nd).mpr fun x => ?_
  unfold inner
  rw [List.mem_filter, Eqn.mem_names]
  constructor
  · intro h
    exact Eqn.mem_tm.mp (of_decide_eq_true h.2)
  · intro h
    exact ⟨sub x h, decide_eq_true (Eqn.mem_tm.mpr h)⟩
theorem EqOk.subL {sg : List (Str × Nat)} {e : Eqn} (h : EqOk sg e) : ∀ x ∈ e.ls, x ∈ vars := fun x hx => h.sub x (Eqn.mem_tm.mpr hx)
theorem EqOk.names4 {sg : List (Str × Nat)} {e : Eqn} (h : EqOk sg e) : e.names.length ≤ 4 := by
  rw [← (Eqn.inner_perm h.subL).length_eq]
  exact h.l4
theorem EqOk.of {sg : List (Str × Nat)} {e : Eqn} (okl : e.l.ok sg) (okr : e.r.ok sg) (fl : e.l.sz ≤ 12) (fr : e.r.sz ≤ 12) (l4 : e.names.length ≤ 4) : EqOk sg e := by
  refine ⟨okl, okr, fl, fr, ?_⟩
  rw [(Eqn.inner_perm fun x hx => ?_).length_eq]
  · exact l4
  · rcases List.mem_append.mp hx with z | z
    · exact ls_vars _ okl x z
    · exact ls_vars _ okr x z
theorem EqOk.rn {sg : List (Str × Nat)} {e : Eqn} (h : EqOk sg e) {w : Str → Str} (hv : ∀ x ∈ e.ls, w x ∈ vars) (inj : InjOn w e.ls) : EqOk sg (e.rn w) := by
  refine EqOk.of (ok_rn _ h.okl fun x hx => hv x (List.mem_append_left _ hx)) (ok_rn _ h.okr fun x hx => hv x (List.mem_append_right _ hx)) ?_ ?_ ?_
  · show (e.l.put _).sz ≤ 12
    rw [sz_rn]
    exact h.fewl
  · show (e.r.put _).sz ≤ 12
    rw [sz_rn]
    exact h.fewr
  · rw [Eqn.names_rn inj, List.length_map]
    exact h.names4
theorem EqOk.names6 {sg : List (Str × Nat)} {e : Eqn} (h : EqOk sg e) : e.names.length ≤ 6 := Nat.le_trans h.names4 (by decide)
theorem EqOk.can {sg : List (Str × Nat)} {e : Eqn} (h : EqOk sg e) : EqOk sg e.can := h.rn (fun x hx => cw_mem h.names6 (Eqn.mem_names.mpr hx) e.names_nd) (InjOn.cw h.names6)
theorem EqOk.oks {sg : List (Str × Nat)} {e : Eqn} (h : EqOk sg e) : e.l.ok sg ∧ e.r.ok sg := ⟨h.okl, h.okr⟩
/-! ### ways to lead letters, one to one -/
/-! ### the same data -/
end K02
end
section
namespace K02
open PySem PySem.Spec PyProof.Rows L2 Evl RZ Dw M20
/-- a dict by which letters are exchanged -/
def PutD (K : PySem.W.Frag) (H : Hp) (v : V) (f : Str → Tm) (xs : List Str) : Prop := ∃ (d : Addr) (kvs : List (Key × V)), v = .ref d ∧ H d = some (.dK kvs) ∧ ∀ x ∈ xs, (valV kvs (.inr x) = none ∧ f x = .var x) ∨ ∃ u, valV kvs (.inr x) = some u ∧ TmV K H (f x) u
theorem PutD.ex {K : PySem.W.Frag} {H H' : Hp} {v : V} {f : Str → Tm} {xs : List Str} (e : Ex H H') (h : PutD K H v f xs) : PutD K H' v f xs := by
  obtain ⟨d, kvs, q, hd, all⟩ := h
  refine ⟨d, kvs, q, e _ _ hd, fun x hx => ?_⟩
  rcases all x hx with z | ⟨u, a, b⟩
  · exact .inl z
  · exact .inr ⟨u, a, b.et (Dw.Ex.et e)⟩
theorem PutD.sub {K : PySem.W.Frag} {H : Hp} {v : V} {f : Str → Tm} {xs ys : List Str} (s : ∀ y ∈ ys, y ∈ xs) (h : PutD K H v f xs) : PutD K H v f ys := let ⟨d, kvs, q, hd, all⟩ := h; ⟨d, kvs, q, hd, fun x hx => all x (s x hx)⟩
section
variable {P : Program} {w : World} {K : PySem.W.Frag} {mg : Str → Option Value} {base : Heap} {σ : L2.St} {H : Hp}
end
end K02
end
section
namespace K02
open PySem PySem.Spec PyProof.Rows L2 Evl RZ Dw M20
/-! ### how long texts are -/
section
variable {P : Program} {w : World} {K : PySem.W.Frag} {mg : Str → Option Value} {base : Heap} {σ : L2.St} {H : Hp}
end
end K02
end
section
namespace K02
open PySem PySem.Spec PyProof.Rows L2 Evl RZ Dw M20
section
variable {P : Program} {w : World} {K : PySem.W.Frag} {mg : Str → Option Value} {base : Heap} {σ : L2.St} {H : Hp} {va : Addr}
end
end K02
end
section
namespace K02
open PySem PySem.Spec PyProof.Rows L2 Evl RZ Dw M20
section
variable {P : Program} {w : World} {K : PySem.W.Frag} {mg : Str → Option Value} {base : Heap} {σ : L2.St} {H : Hp} {va : Addr}
def PairArg (K : PySem.W.Frag) (p : List (Str × Nat) × Eqn) (vs : List V) (H : Hp) : Prop := (∃ u v, vs = [u, v] ∧ FSig K H u p.1 ∧ EqV K H v p.2) ∧ SigOk p.1 ∧ EqOk p.1 p.2
end
end K02
end
section
namespace K02
open PySem PySem.Spec PyProof.Rows L2 Evl RZ Dw M20
section
variable {P : Program} {w : World} {K : PySem.W.Frag} {mg : Str → Option Value} {base : Heap} {σ : L2.St} {H : Hp}
/-! ### come -/
end
end K02
end
section
namespace K02
open PySem PySem.Spec PyProof.Rows L2 Evl RZ Dw M20
section
variable {P : Program} {w : World} {K : PySem.W.Frag} {mg : Str → Option Value} {base : Heap} {σ : L2.St} {H : Hp}
end
end K02
end
section
namespace K02
open PySem PySem.Spec PyProof.Rows L2 Evl RZ Dw M20
theorem nd_len : ∀ {xs ys : List Str}, xs.Nodup → (∀ x ∈ xs, x ∈ ys) → xs.length ≤ ys.length
  | [], _, _, _ => Nat.zero_le _
  | x :: xs, ys, nd, h => by
    obtain ⟨no, nd2⟩ := List.nodup_cons.mp nd
    have m := h x (List.mem_cons_self ..)
    have a := nd_len (ys := ys.erase x) nd2 fun y hy => (List.mem_erase_of_ne (fun (e : y = x) => no (e ▸ hy))).mpr (h y (List.mem_cons_of_mem _ hy))
    have b := List.length_erase_of_mem m
    have c := List.length_pos_of_mem m
    rw [List.length_cons]
    omega
/-! ### parts by paths -/
def Tm.kids : Tm → List Tm
  | .var _ => []
  | .deed _ ts => ts
def sub : List Nat → Tm → Option Tm
  | [], t => some t
  | k :: p, t => t.kids[k]?.bind (sub p)
theorem sz_kid {t v : Tm} {k : Nat} (h : t.kids[k]? = some v) : v.sz < t.sz := by
  cases t with
  | var x =>
    rw [Tm.kids, List.getElem?_nil] at h
    cases h
  | deed f ts =>
    have := sz_le (show ts[k]? = some v from h)
    rw [Tm.sz]
    omega
/-- the items of a deed's terms -/
theorem TmV.kid {K : PySem.W.Frag} {H : Hp} {t v : Tm} {k : Nat} {u : V} (h : TmV K H t u) (hk : t.kids[k]? = some v) : ∃ a b f vs w, u = .ref a ∧ SqT K H a [.str "deed", .str f, .ref b] ∧ SqT K H b vs ∧ vs[k]? = some w ∧ TmV K H v w ∧ t = .deed f t.kids ∧ vs.length = t.kids.length := by
  cases t with
  | var x =>
    rw [Tm.kids, List.getElem?_nil] at hk
    cases hk
  | deed f ts =>
    rw [TmV] at h
    obtain ⟨a, b, vs, rfl, s, s2, r⟩ := h
    have hk' : ts[k]? = some v := hk
    have kl := (List.getElem?_eq_some_iff.mp hk').1
    obtain ⟨w, hw, tw⟩ := r.put kl
    rw [(List.getElem?_eq_some_iff.mp hk').2] at tw
    exact ⟨a, b, f, vs, w, rfl, s, s2, hw, tw, rfl, r.len⟩
section
variable {P : Program} {w : World} {K : PySem.W.Frag} {mg : Str → Option Value} {base : Heap} {σ : L2.St} {H : Hp}
def TOk (p : List (Str × Nat) × Tm) : Prop := SigOk p.1 ∧ p.2.ok p.1 ∧ p.2.sz ≤ 60
/-- with its letters as they first come -/
def Tm.can (t : Tm) : Tm := t.put (rn (cw (firsts t.ls)))
theorem six_firsts {xs : List Str} (h : ∀ x ∈ xs, x ∈ vars) : (firsts xs).length ≤ 6 := by
  have := nd_len (xs := firsts xs) (ys := vars) (firsts_nd _) fun x hx => h x (mem_firsts.mp hx)
  exact this
end
end K02
end
section
namespace K02
open PySem PySem.Spec PyProof.Rows L2 Evl RZ Dw M20
/-- a term with another one at a path -/
def rep : List Nat → Tm → Tm → Tm
  | [], _, o => o
  | _ :: _, .var x, _ => .var x
  | k :: p, .deed f ts, o => .deed f (ts.take k ++ ([match ts[k]? with | some u => rep p u o | none => o] ++ ts.drop (k + 1)))
theorem rep_step {p : List Nat} {i k : Nat} {s v o : Tm} {f : Str} {ts : List Tm} (hk : p[i]? = some k) (hs : s = .deed f ts) (hv : ts[k]? = some v) : rep (p.drop i) s o = .deed f (ts.take k ++ ([rep (p.drop (i + 1)) v o] ++ ts.drop (k + 1))) := by
  have il := (List.getElem?_eq_some_iff.mp hk).1
  rw [List.drop_eq_getElem_cons il, (List.getElem?_eq_some_iff.mp hk).2, hs, rep, hv]
theorem TmsV.take {K : PySem.W.Frag} {H : Hp} : ∀ {ts : List Tm} {us : List V} (n : Nat), TmsV K H ts us → TmsV K H (ts.take n) (us.take n)
  | [], us, n, h => by
    rw [TmsV] at h
    subst h
    rw [List.take_nil, List.take_nil, TmsV]
  | t :: ts, us, n, h => by
    rw [TmsV] at h
    obtain ⟨v, ws, rfl, a, b⟩ := h
    cases n with
    | zero =>
      rw [List.take_zero, List.take_zero, TmsV]
    | succ n =>
      rw [List.take_succ_cons, List.take_succ_cons, TmsV]
      exact ⟨v, _, rfl, a, b.take n⟩
theorem TmsV.drop {K : PySem.W.Frag} {H : Hp} : ∀ {ts : List Tm} {us : List V} (n : Nat), TmsV K H ts us → TmsV K H (ts.drop n) (us.drop n)
  | [], us, n, h => by
    rw [TmsV] at h
    subst h
    rw [List.drop_nil, List.drop_nil, TmsV]
  | t :: ts, us, n, h => by
    have h0 := h
    rw [TmsV] at h
    obtain ⟨v, ws, rfl, a, b⟩ := h
    cases n with
    | zero => exact h0
    | succ n =>
      rw [List.drop_succ_cons, List.drop_succ_cons]
      exact b.drop n
section
variable {P : Program} {w : World} {K : PySem.W.Frag} {mg : Str → Option Value} {base : Heap} {σ : L2.St} {H : Hp}
theorem TmV.kidsV {t v : Tm} {k : Nat} {u : V} (h : TmV K H t u) (hk : t.kids[k]? = some v) : ∃ a b f vs, u = .ref a ∧ SqT K H a [.str "deed", .str f, .ref b] ∧ SqT K H b vs ∧ TmsV K H t.kids vs ∧ t = .deed f t.kids := by
  cases t with
  | var x =>
    rw [Tm.kids, List.getElem?_nil] at hk
    cases hk
  | deed f ts =>
    rw [TmV] at h
    obtain ⟨a, b, vs, rfl, s, s2, r⟩ := h
    exact ⟨a, b, f, vs, rfl, s, s2, r, rfl⟩
theorem do_asg {i : Nat} {te : TE} {D : Ends} (h : te σ H fun x H1 => D.nx (σ.set i (some x)) H1) : tAsg te (gName i) D σ H := h
structure RArg6 where
  t : Tm
  p : List Nat
  u : Tm
  o : Tm
/-- the slices of a tuple, told by what they hold -/
theorem cut_to {xs : List V} {k : Nat} (h : k ≤ xs.length) : cutV xs none (some (k : Int)) = xs.take k := by
  unfold cutV
  rw [HT.sIx_none, show HT.sIx xs.length xs.length (some (k : Int)) = min k xs.length from HT.sIx_nat _ _ k, Nat.min_eq_left h, Nat.sub_zero, List.drop_zero]
theorem cut_from {xs : List V} {k : Nat} (h : k ≤ xs.length) : cutV xs (some (k : Int)) none = xs.drop k := by
  unfold cutV
  rw [show HT.sIx xs.length 0 (some (k : Int)) = min k xs.length from HT.sIx_nat _ _ k, HT.sIx_none, Nat.min_eq_left h]
  exact List.take_of_length_le (by rw [List.length_drop]; exact Nat.le_refl _)
def TupV (K : PySem.W.Frag) (H : Hp) (v : V) (xs : List V) : Prop := ∃ a, v = .ref a ∧ SqT K H a xs
theorem TupV.ex {H H' : Hp} {v : V} {xs : List V} (e : Ex H H') (h : TupV K H v xs) : TupV K H' v xs := let ⟨a, q, s⟩ := h; ⟨a, q, ex_t e s⟩
theorem ep_cutTo {ta tb : TE} {a : Addr} {xs : List V} {k : Nat} (h : Ev ta σ H (.ref a)) (hx : SqT K H a xs) (hb : Ev tb σ H (vi k)) (hk : k ≤ xs.length) : EvP (tSl (rSlA K) ta tNoPart (tPart tb)) σ H (fun v H' => TupV K H' v (xs.take k)) := fun H1 e1 Q q =>
  h H1 e1 _ fun H2 e2 => hb H2 (e1.trans e2) _ fun H3 e3 => ⟨(k : Int), rfl, a, xs, rfl, ex_t ((e1.trans e2).trans e3) hx, fun z => by
    have z2 : HT.sIx xs.length xs.length (some (k : Int)) = xs.length := z.2
    rw [show HT.sIx xs.length xs.length (some (k : Int)) = min k xs.length from HT.sIx_nat _ _ k, Nat.min_eq_left hk] at z2
    refine q _ H3 (e2.trans e3) ⟨a, rfl, ?_⟩
    rw [z2, List.take_length]
    exact ex_t ((e1.trans e2).trans e3) hx, fun _ p np => by
    rw [cut_to hk]
    exact q _ _ ((e2.trans e3).trans (Ex.new np)) ⟨p, rfl, st_of upd_same⟩⟩
theorem ep_cutFrom {ta tb : TE} {a : Addr} {xs : List V} {k : Nat} (h : Ev ta σ H (.ref a)) (hx : SqT K H a xs) (hb : Ev tb σ H (vi k)) (hk : k ≤ xs.length) : EvP (tSl (rSlA K) ta (tPart tb) tNoPart) σ H (fun v H' => TupV K H' v (xs.drop k)) := fun H1 e1 Q q =>
  h H1 e1 _ fun H2 e2 => hb H2 (e1.trans e2) _ fun H3 e3 => ⟨(k : Int), rfl, a, xs, rfl, ex_t ((e1.trans e2).trans e3) hx, fun z => by
    have z1 : HT.sIx xs.length 0 (some (k : Int)) = 0 := z.1
    rw [show HT.sIx xs.length 0 (some (k : Int)) = min k xs.length from HT.sIx_nat _ _ k, Nat.min_eq_left hk] at z1
    refine q _ H3 (e2.trans e3) ⟨a, rfl, ?_⟩
    rw [z1, List.drop_zero]
    exact ex_t ((e1.trans e2).trans e3) hx, fun _ p np => by
    rw [cut_from hk]
    exact q _ _ ((e2.trans e3).trans (Ex.new np)) ⟨p, rfl, st_of upd_same⟩⟩
theorem ep_cat {ta tb : TE} {xs ys : List V} (ha : EvP ta σ H (fun v H' => TupV K H' v xs)) (hb : EvP tb σ H (fun v H' => TupV K H' v ys)) (hl : xs.length + ys.length ≤ 100000) : EvP (tOp (rCatA K) ta tb) σ H (fun v H' => TupV K H' v (xs ++ ys)) := fun H1 e1 Q q =>
  ha H1 e1 _ fun v H2 e2 hv => hb H2 (e1.trans e2) _ fun u H3 e3 hu => by
    obtain ⟨a, rfl, sa⟩ := hv.ex e3
    obtain ⟨b, rfl, sb⟩ := hu
    refine ⟨a, b, xs, ys, rfl, rfl, sa, sb, sz_of hl, fun z => ?_, fun _ z => ?_, fun _ _ p np => ?_⟩
    · subst z
      exact q _ H3 (e2.trans e3) ⟨b, rfl, sb⟩
    · subst z
      rw [List.append_nil] at q
      exact q _ H3 (e2.trans e3) ⟨a, rfl, sa⟩
    · exact q _ _ ((e2.trans e3).trans (Ex.new np)) ⟨p, rfl, st_of upd_same⟩
theorem ep_tup1 {ta : TE} {x : V} (h : Ev ta σ H x) : EvP (tTup (tCons ta tNil)) σ H (fun v H' => TupV K H' v [x]) := fun H1 e1 Q q => eu_tup (ea_cons h ea_nil) (by show 1 ≤ 100000; decide) H1 e1 _ fun p H2 np e2 hp => q _ H2 e2 ⟨p, rfl, st_of hp⟩
end
end K02
end
section
namespace K02
open PySem PySem.Spec PyProof.Rows L2 Evl RZ Dw M20
/-! ### all paths -/
mutual
def Tm.pths : Tm → List (List Nat)
  | .var _ => [[]]
  | .deed _ ts => [] :: pthss 0 ts
def pthss : Nat → List Tm → List (List Nat)
  | _, [] => []
  | k, t :: ts => t.pths.map (k :: ·) ++ pthss (k + 1) ts
end
section
variable {P : Program} {w : World} {K : PySem.W.Frag} {mg : Str → Option Value} {base : Heap} {σ : L2.St} {H : Hp}
/-- something on the stack: a path and a term -/
def PqV (K : PySem.W.Frag) (H : Hp) (n : Nat) (u : V) (q : List Nat × Tm) : Prop := ∃ (a pa : Addr) (v : V), u = .ref a ∧ SqT K H a [.ref pa, v] ∧ SqT K H pa (q.1.map vi) ∧ q.1.length + q.2.sz ≤ n ∧ TmV K H q.2 v
theorem PqV.et {H H' : Hp} {n : Nat} {u : V} {q : List Nat × Tm} (e : ET K H H') (h : PqV K H n u q) : PqV K H' n u q := let ⟨a, pa, v, z, s, p, l, tv⟩ := h; ⟨a, pa, v, z, e _ _ s, e _ _ p, l, tv.et e⟩
def PathsV (K : PySem.W.Frag) (H : Hp) (l : Addr) (ps : List (List Nat)) : Prop := ∃ as : List Addr, H l = some (.lst (as.map V.ref)) ∧ Paired (fun a p => SqT K H a (p.map vi)) as ps
theorem PathsV.ex {H H' : Hp} {l : Addr} {ps : List (List Nat)} (e : Ex H H') (h : PathsV K H l ps) : PathsV K H' l ps := let ⟨as, a, b⟩ := h; ⟨as, e _ _ a, paired_imp (fun _ _ z => ex_t e z) b⟩
mutual
theorem pths_len : ∀ t : Tm, t.pths.length = t.sz
  | .var x => by rw [Tm.pths, Tm.sz]; rfl
  | .deed f ts => by rw [Tm.pths, Tm.sz, List.length_cons, pthss_len 0 ts, Nat.add_comm]
theorem pthss_len : ∀ (k : Nat) (ts : List Tm), (pthss k ts).length = szs ts
  | _, [] => by rw [pthss, szs]; rfl
  | k, t :: ts => by rw [pthss, szs, List.length_append, List.length_map, pths_len t, pthss_len (k + 1) ts]
end
end
end K02
end
section
namespace K02
open PySem PySem.Spec PyProof.Rows L2 Evl RZ Dw M20
section
variable {P : Program} {w : World} {K : PySem.W.Frag} {mg : Str → Option Value} {base : Heap} {σ : L2.St} {H : Hp}
/-! ### how many parts a term has when it is put in -/
/-- a dict of numbers -/
def NumD (H : Hp) (v : V) (n : Str → Nat) (xs : List Str) : Prop := ∃ (d : Addr) (kvs : List (Key × V)), v = .ref d ∧ H d = some (.dK kvs) ∧ ∀ x ∈ xs, (valV kvs (.inr x)).getD (vi 1) = vi (n x)
theorem NumD.ex {H H' : Hp} {v : V} {n : Str → Nat} {xs : List Str} (e : Ex H H') (h : NumD H v n xs) : NumD H' v n xs := let ⟨d, kvs, q, hd, all⟩ := h; ⟨d, kvs, q, e _ _ hd, all⟩
end
end K02
end
section
namespace K02
open PySem PySem.Spec PyProof.Rows L2 Evl RZ Dw M20
/-! ### puttings -/
def PutV (K : PySem.W.Frag) (H : Hp) (v : V) (ks : List Str) (g : Str → Tm) : Prop := ∃ (d : Addr) (kvs : List (Key × V)), v = .ref d ∧ H d = some (.dK kvs) ∧ kvs.map (·.1) = ks.map Sum.inr ∧ ∀ kv ∈ kvs, ∀ x, kv.1 = Sum.inr x → TmV K H (g x) kv.2
theorem PutV.ex {K : PySem.W.Frag} {H H' : Hp} {v : V} {ks : List Str} {g : Str → Tm} (e : Ex H H') (h : PutV K H v ks g) : PutV K H' v ks g := let ⟨d, kvs, q, a, b, c⟩ := h; ⟨d, kvs, q, e _ _ a, b, fun kv hk x ex => (c kv hk x ex).et (Dw.Ex.et e)⟩
theorem nodup_inr : ∀ {ks : List Str}, ks.Nodup → (ks.map (Sum.inr : Str → Key)).Nodup
  | [], _ => List.nodup_nil
  | k :: r, h => by
    obtain ⟨no, nd⟩ := List.nodup_cons.mp h
    refine List.nodup_cons.mpr ⟨fun z => ?_, nodup_inr nd⟩
    obtain ⟨y, hy, e⟩ := List.mem_map.mp z
    exact no (Sum.inr.inj e ▸ hy)
theorem val_none : ∀ {kvs : List (Key × V)} {k : Key}, k ∉ kvs.map (·.1) → valV kvs k = none
  | [], _, _ => rfl
  | p :: r, k, h => by
    have h' : k ∉ p.1 :: r.map (·.1) := h
    rw [valV_neg (fun e => h' (by rw [e]; exact List.mem_cons_self ..))]
    exact val_none fun z => h' (List.mem_cons_of_mem _ z)
theorem val_mem : ∀ {kvs : List (Key × V)} {k : Key} {v : V}, (kvs.map (·.1)).Nodup → (k, v) ∈ kvs → valV kvs k = some v
  | [], _, _, _, h => nomatch h
  | p :: r, k, v, nd, h => by
    obtain ⟨no, nd2⟩ := List.nodup_cons.mp (show (p.1 :: r.map (·.1)).Nodup from nd)
    rcases List.mem_cons.mp h with e | e
    · rw [← e]
      exact valV_pos rfl
    · rw [valV_neg (fun z => no (by rw [z]; exact List.mem_map_of_mem e))]
      exact val_mem nd2 e
theorem PutV.val {K : PySem.W.Frag} {H : Hp} {kvs : List (Key × V)} {ks : List Str} {g : Str → Tm} (nd : ks.Nodup) (b : kvs.map (·.1) = ks.map Sum.inr) (c : ∀ kv ∈ kvs, ∀ x, kv.1 = Sum.inr x → TmV K H (g x) kv.2) (x : Str) : (x ∈ ks → ∃ u, valV kvs (.inr x) = some u ∧ TmV K H (g x) u) ∧ (x ∉ ks → valV kvs (.inr x) = none) := by
  have ndk : (kvs.map (·.1)).Nodup := by
    rw [b]
    exact nodup_inr nd
  refine ⟨fun hx => ?_, fun hx => val_none ?_⟩
  · have m : (Sum.inr x : Key) ∈ kvs.map (·.1) := by
      rw [b]
      exact List.mem_map_of_mem hx
    obtain ⟨⟨k, u⟩, hk, ek⟩ := List.mem_map.mp m
    have ek' : k = Sum.inr x := ek
    subst ek'
    exact ⟨u, val_mem ndk hk, c _ hk x rfl⟩
  · rw [b]
    intro z
    obtain ⟨y, hy, e⟩ := List.mem_map.mp z
    exact hx (Sum.inr.inj e ▸ hy)
/-! ### while a dict is walked -/
section
variable {P : Program} {w : World} {K : PySem.W.Frag} {mg : Str → Option Value} {base : Heap} {σ : L2.St} {H : Hp} {va : Addr}
end
end K02
end
section
namespace K02
open PySem PySem.Spec PyProof.Rows L2 Evl RZ Dw M20
/-! ### matching -/
theorem puts_iff {h : Str → Tm} : ∀ {ts us : List Tm}, ts.length = us.length → (puts h ts = us ↔ ∀ q ∈ ts.zip us, q.1.put h = q.2)
  | [], [], _ => by
    rw [puts]
    exact ⟨fun _ q z => (nomatch z), fun _ => rfl⟩
  | [], _ :: _, l => by cases l
  | _ :: _, [], l => by cases l
  | t :: ts, u :: us, l => by
    rw [puts, List.zip_cons_cons]
    have ih := puts_iff (h := h) (ts := ts) (us := us) (Nat.succ.inj l)
    constructor
    · intro e q hq
      obtain ⟨e1, e2⟩ := List.cons.inj e
      rcases List.mem_cons.mp hq with z | z
      · rw [z]
        exact e1
      · exact ih.mp e2 q z
    · intro e
      rw [ih.mpr fun q hq => e q (List.mem_cons_of_mem _ hq)]
      have e1 : t.put h = u := e (t, u) (List.mem_cons_self ..)
      rw [e1]
theorem deed_iff {h : Str → Tm} {f : Str} {ts us : List Tm} (l : ts.length = us.length) : (Tm.deed f ts).put h = .deed f us ↔ ∀ q ∈ ts.zip us, q.1.put h = q.2 := by
  rw [Tm.put, ← puts_iff l]
  constructor
  · intro e
    injection e
  · intro e
    rw [e]
theorem zip_ls {x : Str} : ∀ {ts us : List Tm}, ts.length = us.length → (x ∈ lss ts ↔ ∃ q ∈ ts.zip us, x ∈ q.1.ls)
  | [], [], _ => by
    rw [lss]
    exact ⟨fun z => (nomatch z), fun ⟨q, z, _⟩ => (nomatch z)⟩
  | [], _ :: _, l => by cases l
  | _ :: _, [], l => by cases l
  | t :: ts, u :: us, l => by
    rw [lss, List.zip_cons_cons, List.mem_append, zip_ls (Nat.succ.inj l)]
    constructor
    · rintro (h | ⟨q, hq, h⟩)
      · exact ⟨(t, u), List.mem_cons_self .., h⟩
      · exact ⟨q, List.mem_cons_of_mem _ hq, h⟩
    · rintro ⟨q, hq, h⟩
      rcases List.mem_cons.mp hq with z | z
      · rw [z] at h
        exact .inl h
      · exact .inr ⟨q, z, h⟩
theorem oks_mem {sg : List (Str × Nat)} : ∀ {ts : List Tm}, oks sg ts → ∀ t ∈ ts, t.ok sg
  | [], _, t, h => nomatch h
  | u :: ts, o, t, h => by
    rw [oks] at o
    rcases List.mem_cons.mp h with z | z
    · rw [z]
      exact o.1
    · exact oks_mem o.2 t z
theorem hgts_mem : ∀ {ts : List Tm}, ∀ t ∈ ts, t.hgt ≤ hgts ts
  | [], t, h => nomatch h
  | u :: ts, t, h => by
    rw [hgts]
    rcases List.mem_cons.mp h with z | z
    · rw [z]
      exact Nat.le_max_left _ _
    · exact Nat.le_trans (hgts_mem t z) (Nat.le_max_right _ _)
/-- what is still to be matched is well -/
structure MOk (sg : List (Str × Nat)) (q : Tm × Tm) : Prop where
  o1 : q.1.ok sg
  o2 : q.2.ok sg
  low : q.2.hgt ≤ 29
structure FInv (sg : List (Str × Nat)) (p t : Tm) (S : List (Tm × Tm)) (ks : List Str) (g : Str → Tm) : Prop where
  iff : ∀ f, p.put f = t ↔ ((∀ x ∈ ks, f x = g x) ∧ ∀ q ∈ S, q.1.put f = q.2)
  ls : ∀ x, x ∈ p.ls ↔ (x ∈ ks ∨ ∃ q ∈ S, x ∈ q.1.ls)
  nd : ks.Nodup
  sub : ∀ x ∈ ks, x ∈ vars
  ok : ∀ q ∈ S, MOk sg q
  gok : ∀ x ∈ ks, (g x).ok sg ∧ (g x).hgt ≤ 29
theorem FInv.start {sg : List (Str × Nat)} {p t : Tm} (o : MOk sg (p, t)) : FInv sg p t [(p, t)] [] Tm.var :=
  ⟨fun f => ⟨fun h => ⟨fun x hx => (nomatch hx), fun q hq => by rw [List.mem_singleton.mp hq]; exact h⟩, fun h => h.2 (p, t) (List.mem_singleton.mpr rfl)⟩, fun x => ⟨fun h => .inr ⟨(p, t), List.mem_singleton.mpr rfl, h⟩, fun h => by
    rcases h with z | ⟨q, hq, z⟩
    · cases z
    · rw [List.mem_singleton.mp hq] at z; exact z⟩, List.nodup_nil, fun x hx => (nomatch hx), fun q hq => by rw [List.mem_singleton.mp hq]; exact o, fun x hx => (nomatch hx)⟩
theorem snoc_all {α : Type} {P : α → Prop} {b : List α} {z : α} : (∀ q ∈ b ++ [z], P q) ↔ (∀ q ∈ b, P q) ∧ P z := by
  constructor
  · intro h
    exact ⟨fun q hq => h q (List.mem_append_left _ hq), h z (List.mem_append_right _ (List.mem_singleton.mpr rfl))⟩
  · rintro ⟨h1, h2⟩ q hq
    rcases List.mem_append.mp hq with y | y
    · exact h1 q y
    · rw [List.mem_singleton.mp y]
      exact h2
theorem snoc_ex {α : Type} {P : α → Prop} {b : List α} {z : α} : (∃ q ∈ b ++ [z], P q) ↔ (∃ q ∈ b, P q) ∨ P z := by
  constructor
  · rintro ⟨q, hq, h⟩
    rcases List.mem_append.mp hq with y | y
    · exact .inl ⟨q, y, h⟩
    · rw [List.mem_singleton.mp y] at h
      exact .inr h
  · rintro (⟨q, hq, h⟩ | h)
    · exact ⟨q, List.mem_append_left _ hq, h⟩
    · exact ⟨z, List.mem_append_right _ (List.mem_singleton.mpr rfl), h⟩
section
variable {sg : List (Str × Nat)} {p t b2 : Tm} {S : List (Tm × Tm)} {ks : List Str} {g : Str → Tm} {x : Str}
theorem FInv.old (h : FInv sg p t (S ++ [(.var x, b2)]) ks g) (hx : x ∈ ks) (e : g x = b2) : FInv sg p t S ks g := by
  refine ⟨fun f => ?_, fun y => ?_, h.nd, h.sub, fun q hq => h.ok q (List.mem_append_left _ hq), h.gok⟩
  · rw [h.iff f, snoc_all]
    constructor
    · rintro ⟨a, b, _⟩
      exact ⟨a, b⟩
    · rintro ⟨a, b⟩
      refine ⟨a, b, ?_⟩
      show (Tm.var x).put f = b2
      rw [Tm.put, a x hx, e]
  · rw [h.ls y, snoc_ex]
    constructor
    · rintro (a | a | a)
      · exact .inl a
      · exact .inr a
      · have a' : y ∈ (Tm.var x).ls := a
        rw [Tm.ls, List.mem_singleton] at a'
        rw [a']
        exact .inl hx
    · rintro (a | a)
      · exact .inl a
      · exact .inr (.inl a)
def ug (g : Str → Tm) (x : Str) (b : Tm) (y : Str) : Tm := if y = x then b else g y
theorem FInv.new (h : FInv sg p t (S ++ [(.var x, b2)]) ks g) (hx : x ∉ ks) : FInv sg p t S (ks ++ [x]) (ug g x b2) := by
  have m := h.ok (.var x, b2) (List.mem_append_right _ (List.mem_singleton.mpr rfl))
  have same : ∀ y ∈ ks, ug g x b2 y = g y := fun y hy => if_neg fun (e : y = x) => hx (e ▸ hy)
  have own : ug g x b2 x = b2 := if_pos rfl
  refine ⟨fun f => ?_, fun y => ?_, ?_, ?_, fun q hq => h.ok q (List.mem_append_left _ hq), ?_⟩
  · rw [h.iff f, snoc_all, snoc_all, own]
    constructor
    · rintro ⟨a, b, c⟩
      exact ⟨⟨fun y hy => by rw [a y hy, same y hy], c⟩, b⟩
    · rintro ⟨⟨a, c⟩, b⟩
      exact ⟨fun y hy => by rw [a y hy, same y hy], b, c⟩
  · rw [h.ls y, snoc_ex, List.mem_append, List.mem_singleton]
    have z : y ∈ (Tm.var x, b2).1.ls ↔ y = x := by
      show y ∈ (Tm.var x).ls ↔ y = x
      rw [Tm.ls, List.mem_singleton]
    rw [z]
    constructor
    · rintro (a | a | a)
      · exact .inl (.inl a)
      · exact .inr a
      · exact .inl (.inr a)
    · rintro ((a | a) | a)
      · exact .inl a
      · exact .inr (.inr a)
      · exact .inr (.inl a)
  · exact List.nodup_append.mpr ⟨h.nd, List.nodup_cons.mpr ⟨fun z => (nomatch z), List.nodup_nil⟩, fun a ha c hc e => hx (by rw [List.mem_singleton.mp hc] at e; exact e ▸ ha)⟩
  · intro y hy
    rcases List.mem_append.mp hy with z | z
    · exact h.sub y z
    · rw [List.mem_singleton.mp z]
      have o := m.o1
      show x ∈ vars
      rw [show (Tm.var x, b2).1 = Tm.var x from rfl, Tm.ok] at o
      exact o
  · intro y hy
    rcases List.mem_append.mp hy with z | z
    · rw [same y z]
      exact h.gok y z
    · rw [List.mem_singleton.mp z, own]
      exact ⟨m.o2, m.low⟩
theorem FInv.odd {a : Tm} (h : FInv sg p t (S ++ [(a, b2)]) ks g) (e : ∀ f, a.put f ≠ b2) : ∀ f, p.put f ≠ t := fun f z => e f (snoc_all.mp ((h.iff f).mp z).2).2
theorem sig_one (so : SigOk sg) {f : Str} {n m : Nat} (h1 : (f, n) ∈ sg) (h2 : (f, m) ∈ sg) : n = m := by
  have nd := so.nd
  clear so
  induction sg with
  | nil => cases h1
  | cons d r ih =>
    obtain ⟨no, nd2⟩ := List.nodup_cons.mp (show (d.1 :: r.map (·.1)).Nodup from nd)
    rcases List.mem_cons.mp h1 with a | a <;> rcases List.mem_cons.mp h2 with b | b
    · rw [← a] at b
      exact (Prod.mk.inj b).2.symm
    · exact absurd (by rw [← a]; exact List.mem_map_of_mem (f := (·.1)) b) no
    · exact absurd (by rw [← b]; exact List.mem_map_of_mem (f := (·.1)) a) no
    · exact ih a b nd2
/-- the parts of two deeds of one name -/
theorem FInv.deed (so : SigOk sg) {f : Str} {ts us : List Tm} (h : FInv sg p t (S ++ [(.deed f ts, .deed f us)]) ks g) : ts.length = us.length ∧ FInv sg p t (S ++ ts.zip us) ks g := by
  have m := h.ok (.deed f ts, .deed f us) (List.mem_append_right _ (List.mem_singleton.mpr rfl))
  have o1 : (Tm.deed f ts).ok sg := m.o1
  have o2 : (Tm.deed f us).ok sg := m.o2
  have lo : (Tm.deed f us).hgt ≤ 29 := m.low
  rw [Tm.ok] at o1 o2
  rw [Tm.hgt] at lo
  have l := sig_one so o1.1 o2.1
  refine ⟨l, fun f' => ?_, fun y => ?_, h.nd, h.sub, fun q hq => ?_, h.gok⟩
  · rw [h.iff f', snoc_all]
    have d : (Tm.deed f ts, Tm.deed f us).1.put f' = (Tm.deed f ts, Tm.deed f us).2 ↔ _ := deed_iff (h := f') (f := f) l
    rw [d]
    constructor
    · rintro ⟨a, b, c⟩
      refine ⟨a, fun q hq => ?_⟩
      rcases List.mem_append.mp hq with z | z
      · exact b q z
      · exact c q z
    · rintro ⟨a, b⟩
      exact ⟨a, fun q hq => b q (List.mem_append_left _ hq), fun q hq => b q (List.mem_append_right _ hq)⟩
  · rw [h.ls y, snoc_ex]
    have d : y ∈ (Tm.deed f ts, Tm.deed f us).1.ls ↔ ∃ q ∈ ts.zip us, y ∈ q.1.ls := by
      show y ∈ (Tm.deed f ts).ls ↔ _
      rw [Tm.ls]
      exact zip_ls l
    rw [d]
    constructor
    · rintro (a | ⟨q, hq, a⟩ | ⟨q, hq, a⟩)
      · exact .inl a
      · exact .inr ⟨q, List.mem_append_left _ hq, a⟩
      · exact .inr ⟨q, List.mem_append_right _ hq, a⟩
    · rintro (a | ⟨q, hq, a⟩)
      · exact .inl a
      · rcases List.mem_append.mp hq with z | z
        · exact .inr (.inl ⟨q, z, a⟩)
        · exact .inr (.inr ⟨q, z, a⟩)
  · rcases List.mem_append.mp hq with z | z
    · exact h.ok q (List.mem_append_left _ z)
    · obtain ⟨z1, z2⟩ := List.of_mem_zip (a := q.1) (b := q.2) (by exact z)
      have lo2 := hgts_mem q.2 z2
      exact ⟨oks_mem o1.2 _ z1, oks_mem o2.2 _ z2, by omega⟩
end
end K02
end
section
namespace K02
open PySem PySem.Spec PyProof.Rows L2 Evl RZ Dw M20
section
variable {P : Program} {w : World} {K : PySem.W.Frag} {mg : Str → Option Value} {base : Heap} {σ : L2.St} {H : Hp}
def PsV (K : PySem.W.Frag) (H : Hp) (u : V) (q : Tm × Tm) : Prop := ∃ (a : Addr) (x y : V), u = .ref a ∧ SqT K H a [x, y] ∧ TmV K H q.1 x ∧ TmV K H q.2 y
theorem PsV.et {H H' : Hp} {u : V} {q : Tm × Tm} (e : ET K H H') (h : PsV K H u q) : PsV K H' u q := let ⟨a, x, y, z, s, p, r⟩ := h; ⟨a, x, y, z, e _ _ s, p.et e, r.et e⟩
end
end K02
end
section
namespace K02
open PySem PySem.Spec PyProof.Rows L2 Evl RZ Dw M20
theorem TOk.six {sg : List (Str × Nat)} {t : Tm} (h : TOk (sg, t)) : (firsts t.ls).length ≤ 6 := six_firsts (ls_vars t h.2.1)
theorem TOk.can {sg : List (Str × Nat)} {t : Tm} (h : TOk (sg, t)) : TOk (sg, t.can) := by
  refine ⟨h.1, ok_rn t h.2.1 fun x hx => cw_mem h.six (mem_firsts.mpr hx) (firsts_nd _), ?_⟩
  show (t.put _).sz ≤ 60
  rw [sz_rn]
  exact h.2.2
section
variable {P : Program} {w : World} {K : PySem.W.Frag} {mg : Str → Option Value} {base : Heap} {σ : L2.St} {H : Hp}
end
end K02
end
section
namespace K02
open PySem PySem.Spec PyProof.Rows L2 Evl RZ Dw M20
end K02
end
section
namespace K02
open PySem PySem.Spec PyProof.Rows L2 Evl RZ Dw M20 LiI
section
variable {P : Program} {w : World} {K : PySem.W.Frag} {mg : Str → Option Value} {base : Heap} {σ : L2.St} {H : Hp} {C G : Addr}
/-- a try whose body is one call -/
theorem do_try {W0 : Ends → WX} {sp : Sp} {ta : TA} {tz : TS} {D : Ends} (h : ta σ H fun vs H1 => sp vs H1 (fun _ H2 => tz D σ H2) (WE (W0 { D with nx := tz D }) σ)) : tSeq (fun D σ H => tDrop (tCallS sp (fun σ => WE (W0 D) σ) ta) D σ H) tz D σ H := h
end
end K02
end
section
namespace K02
open PySem PySem.Spec PyProof.Rows L2 Evl RZ Dw M20
/-- the classes of errors: NoPlace at P0, TooBig at B0, NoTerm at T0, DeedError at G0 -/
structure Ers (K : PySem.W.Frag) (mg : Str → Option Value) (P0 B0 T0 G0 : Addr) : Prop where
  p : ExcT K mg "NoPlace" P0
  b : ExcT K mg "TooBig" B0
  t : ExcT K mg "NoTerm" T0
  g : mg "DeedError" = some (.ref G0)
  xp : PySem.W.exmOne K (.ref P0) (.ref G0) = some true
  xb : PySem.W.exmOne K (.ref B0) (.ref G0) = some true
  xt : PySem.W.exmOne K (.ref T0) (.ref G0) = some true
section
variable {P : Program} {w : World} {K : PySem.W.Frag} {mg : Str → Option Value} {base : Heap} {σ : L2.St} {H : Hp} {P0 B0 T0 G0 : Addr}
/-- what is no whole number -/
inductive NotInt (K : PySem.W.Frag) (H : Hp) : V → Prop where
  | bl (b : Bool) : NotInt K H (.bl b)
  | non : NotInt K H .non
  | str (z : Str) : NotInt K H (.str z)
  | tup {a : Addr} {xs : List V} (h : SqT K H a xs) : NotInt K H (.ref a)
theorem NotInt.ex {H' : Hp} {v : V} (e : Ex H H') (h : NotInt K H v) : NotInt K H' v := by
  cases h with
  | bl b => exact .bl b
  | non => exact .non
  | str z => exact .str z
  | tup h => exact .tup (ex_t e h)
theorem kit_nt : PySem.W.kitOne K (.type "NoneType") (.type "tuple") = some false := kit_ty (by decide +kernel)
theorem kit_it : PySem.W.kitOne K (.type "int") (.type "tuple") = some false := kit_ty (by decide +kernel)
theorem kit_st : PySem.W.kitOne K (.type "str") (.type "tuple") = some false := kit_ty (by decide +kernel)
theorem kit_lt : PySem.W.kitOne K (.type "list") (.type "tuple") = some false := kit_ty (by decide +kernel)
def isI : V → Bool
  | .int _ => true
  | _ => false
theorem NotInt.no {v : V} (h : NotInt K H v) : isI v = false := by cases h <;> rfl
/-- what is no tuple -/
inductive NoTup (H : Hp) : V → Prop where
  | non : NoTup H .non
  | int (i : Int) : NoTup H (.int i)
  | str (z : Str) : NoTup H (.str z)
  | lst {a : Addr} {xs : List V} (h : H a = some (.lst xs)) : NoTup H (.ref a)
theorem NoTup.ex {H' : Hp} {v : V} (e : Ex H H') (h : NoTup H v) : NoTup H' v := by
  cases h with
  | non => exact .non
  | int i => exact .int i
  | str z => exact .str z
  | lst h => exact .lst (e _ _ h)
/-- no way on from u -/
def BadAt (K : PySem.W.Frag) (H : Hp) (u : Tm) (x : V) : Prop := (∃ y, u = .var y) ∨ NotInt K H x ∨ ∃ i : Int, x = .int i ∧ ¬ (0 ≤ i ∧ i < (u.kids.length : Int))
theorem BadAt.ex {H' : Hp} {u : Tm} {x : V} (e : Ex H H') (h : BadAt K H u x) : BadAt K H' u x := h.imp id (.imp (NotInt.ex e) id)
/-- no path of t -/
def OddV (K : PySem.W.Frag) (H : Hp) (t : Tm) (th : V) : Prop := NoTup H th ∨ ∃ (a : Addr) (q : List Nat) (u : Tm) (x : V) (rest : List V), th = .ref a ∧ SqT K H a (q.map vi ++ x :: rest) ∧ sub q t = some u ∧ BadAt K H u x
theorem OddV.ex {H' : Hp} {t : Tm} {v : V} (e : Ex H H') (h : OddV K H t v) : OddV K H' t v := by
  rcases h with h | ⟨a, q, u, x, r, h1, h2, h3, h4⟩
  · exact .inl (h.ex e)
  · exact .inr ⟨a, q, u, x, r, h1, ex_t e h2, h3, h4.ex e⟩
end
end K02
end
section
namespace K02
open PySem PySem.Spec PyProof.Rows L2 Evl RZ Dw M20
section
variable {P : Program} {w : World} {K : PySem.W.Frag} {mg : Str → Option Value} {base : Heap} {σ : L2.St} {H : Hp} {P0 B0 T0 G0 : Addr} {va : Addr}
theorem do_if {b : Bool} {tt : TT} {ta tb : TE} {Q : VK} (h : EvT tt σ H b) (h1 : b = true → ∀ H1, Ex H H1 → ta σ H1 Q) (h2 : b = false → ∀ H1, Ex H H1 → tb σ H1 Q) : tIf tt ta tb σ H Q := by
  refine h H (Ex.refl _) _ fun H1 e1 => ?_
  cases b with
  | true => exact h1 rfl H1 e1
  | false => exact h2 rfl H1 e1
/-- a letter that is none -/
def OddT (K : PySem.W.Frag) (H : Hp) (v : V) : Prop := ∃ a x, v = .ref a ∧ SqT K H a [.str "var", .str x] ∧ x ∉ vars
theorem OddT.ex {H' : Hp} {v : V} (e : Ex H H') (h : OddT K H v) : OddT K H' v := let ⟨a, x, h1, h2, h3⟩ := h; ⟨a, x, h1, ex_t e h2, h3⟩
end
end K02
end
section
namespace K02
open PySem PySem.Spec PyProof.Rows L2 Evl RZ Dw M20
section
variable {P : Program} {w : World} {K : PySem.W.Frag} {mg : Str → Option Value} {base : Heap} {σ : L2.St} {H : Hp} {P0 B0 T0 G0 : Addr} {va : Addr}
theorem et_isNP {ta : TE} (h : EvP ta σ H fun v _ => ∃ a, v = .ref a) : EvT (tTest (tOp (fun x y H Q => y = .non ∧ Q (.bl (!decide (x = .non))) H) ta (tC .non))) σ H true := fun H1 e Q q => h H1 e _ fun v H2 e2 ⟨a, hv⟩ => by
  subst hv
  exact ⟨rfl, _, rfl, q H2 e2⟩
/-- no term over sg -/
def BadT (K : PySem.W.Frag) (H : Hp) (sg : List (Str × Nat)) (v : V) : Prop := OddT K H v ∨ ∃ tm : Tm, TmV K H tm v ∧ tm.ok sg ∧ tm.sz ≤ 100 ∧ 60 < tm.sz
theorem BadT.ex {H' : Hp} {sg : List (Str × Nat)} {v : V} (e : Ex H H') (h : BadT K H sg v) : BadT K H' sg v := h.imp (·.ex e) fun ⟨tm, h1, h2⟩ => ⟨tm, h1.et (Dw.Ex.et e), h2⟩
end
end K02
end
section
namespace K02
open PySem PySem.Spec PyProof.Rows L2 Evl RZ Dw M20
mutual
def Tm.spots : Tm → List Nat → List (List Nat × Tm)
  | .var x, p => [(p, .var x)]
  | .deed f ts, p => (p, .deed f ts) :: spotss ts p 0
def spotss : List Tm → List Nat → Nat → List (List Nat × Tm)
  | [], _, _ => []
  | t :: ts, p, k => t.spots (p ++ [k]) ++ spotss ts p (k + 1)
end
mutual
theorem spots_fst : ∀ (t : Tm) (p : List Nat), (t.spots p).map (·.1) = t.pths.map (p ++ ·)
  | .var x, p => by
    rw [Tm.spots, Tm.pths]
    show [p] = [p ++ []]
    rw [List.append_nil]
  | .deed f ts, p => by
    rw [Tm.spots, Tm.pths, List.map_cons, List.map_cons, List.append_nil, spotss_fst ts p 0]
theorem spotss_fst : ∀ (ts : List Tm) (p : List Nat) (k : Nat), (spotss ts p k).map (·.1) = (pthss k ts).map (p ++ ·)
  | [], p, k => by
    rw [spotss, pthss]
    rfl
  | t :: ts, p, k => by
    rw [spotss, pthss, List.map_append, List.map_append, spots_fst t (p ++ [k]), spotss_fst ts p (k + 1), List.map_map]
    congr 1
    refine List.map_congr_left fun q _ => ?_
    show (p ++ [k]) ++ q = p ++ (k :: q)
    rw [List.append_assoc]
    rfl
end
theorem spots_len (t : Tm) (p : List Nat) : (t.spots p).length = t.sz := by
  rw [← pths_len t]
  have := congrArg List.length (spots_fst t p)
  rw [List.length_map, List.length_map] at this
  exact this
theorem paired_append {α β : Type} {R : α → β → Prop} : ∀ {as cs : List α} {bs ds : List β}, Paired R as bs → Paired R cs ds → Paired R (as ++ cs) (bs ++ ds)
  | _, _, _, _, .nil, h => h
  | _, _, _, _, .cons a t, h => .cons a (paired_append t h)
section
variable {P : Program} {w : World} {K : PySem.W.Frag} {mg : Str → Option Value} {base : Heap} {σ : L2.St} {H : Hp}
def SpV (K : PySem.W.Frag) (H : Hp) (u : V) (e : List Nat × Tm) : Prop := ∃ (a b : Addr) (v : V), u = .ref a ∧ SqT K H a [.ref b, v] ∧ SqT K H b (e.1.map vi) ∧ TmV K H e.2 v
theorem SpV.et {H' : Hp} {u : V} {e : List Nat × Tm} (x : ET K H H') (h : SpV K H u e) : SpV K H' u e := let ⟨a, b, v, h1, h2, h3, h4⟩ := h; ⟨a, b, v, h1, x _ _ h2, x _ _ h3, h4.et x⟩
def SpsV (K : PySem.W.Frag) (H : Hp) (v : V) (es : List (List Nat × Tm)) : Prop := ∃ (l : Addr) (us : List V), v = .ref l ∧ H l = some (.lst us) ∧ Paired (SpV K H) us es
theorem SpsV.ex {H' : Hp} {u : V} {e : List (List Nat × Tm)} (x : Ex H H') (h : SpsV K H u e) : SpsV K H' u e := let ⟨a, us, h1, h2, h3⟩ := h; ⟨a, us, h1, x _ _ h2, paired_imp (fun _ _ z => z.et (Dw.Ex.et x)) h3⟩
theorem pathN (p : List Nat) (i : Nat) : p.map vi ++ [vi i] = (p ++ [i]).map vi := by
  rw [List.map_append]
  rfl
def natsD (p : List Nat) : List PyData := p.map fun k => .int ((k : Nat) : Int)
theorem nats_lay : ∀ p : List Nat, PyData.canLayAll0 (natsD p) = true
  | [] => rfl
  | _ :: p => by
    show (true && PyData.canLayAll0 (natsD p)) = true
    rw [nats_lay p]
    rfl
theorem nats_depth : ∀ p : List Nat, PyData.depthAll (natsD p) ≤ 0
  | [] => Nat.le_refl _
  | _ :: p => by
    show max 0 (PyData.depthAll (natsD p)) ≤ 0
    have := nats_depth p
    omega
theorem nats_shaped (p : List Nat) : SeqAt.shaped (.tuple (natsD p)) = true := by
  have d := nats_depth p
  show (PyData.canLayAll0 (natsD p) && decide (PyData.depth (.tuple (natsD p)) ≤ 64)) = true
  rw [nats_lay p, decide_eq_true (show PyData.depth (.tuple (natsD p)) ≤ 64 by simp only [PyData.depth]; omega)]
  rfl
def sp_laid (K : PySem.W.Frag) (n : Nat) : Sp := spX (fun (q : RArg6) vs H => (∃ v a u, vs = [v, .ref a, u] ∧ TmV K H q.t v ∧ SqT K H a (q.p.map vi) ∧ TmV K H q.o u) ∧ sub q.p q.t = some q.u ∧ q.p.length < n ∧ q.t.sz ≤ 100) (fun q v H => TmV K H (rep q.p q.t q.o) v)
theorem ev_path0 {i : Nat} {a : Addr} {p : List Nat} (h : Ev (tVar i) σ H (.ref a)) (hp : SqT K H a (p.map vi)) : EvT (tTest (tOp (rEqD K) (tVar i) (tTup tNil))) σ H p.isEmpty := et_test (ev_opU h (eu_tup ea_nil (by show 0 ≤ 100000; decide)) fun r H1 hr e1 => fun H2 e2 Q' q' => ⟨.tuple (natsD p), .tuple [], .tup (ex_t (e1.trans e2) hp) (dps_vi p), .tup (st_of (e2 _ _ hr)) .nil, nats_shaped p, rfl, by
  have z := q' H2 (Ex.refl _)
  cases p with
  | nil => exact z
  | cons a b => exact z⟩)
theorem cat_at {Q : VK} {x y : V} {xs ys : List V} (ha : TupV K H x xs) (hb : TupV K H y ys) (hl : xs.length + ys.length ≤ 100000) (q : ∀ v H', Ex H H' → TupV K H' v (xs ++ ys) → Q v H') : rCatA K x y H Q := by
  obtain ⟨a, rfl, sa⟩ := ha
  obtain ⟨b, rfl, sb⟩ := hb
  refine ⟨a, b, xs, ys, rfl, rfl, sa, sb, sz_of hl, fun z => ?_, fun _ z => ?_, fun _ _ p np => ?_⟩
  · subst z
    exact q _ H (Ex.refl _) ⟨b, rfl, sb⟩
  · subst z
    rw [List.append_nil] at q
    exact q _ H (Ex.refl _) ⟨a, rfl, sa⟩
  · exact q _ _ (Ex.new np) ⟨p, rfl, st_of upd_same⟩
theorem c_laid (T : Txt mg) (D : Df K mg "_law_laid" s__law_laid ["_law_piece", "_law_path", "_law_bit"]) : ∀ n : Nat, Cl P w K mg base (n + 1) "_law_laid" (sp_laid K n) := by
  intro n
  induction n with
  | zero =>
    refine cl_of (k := 0) D sc__law_laid (fun vs H Q E h => ?_) (fun f cdv A outer s H vs Q E hr h => ?_)
    · obtain ⟨q, ⟨⟨v, a, u, rfl, _⟩, _⟩, _⟩ := h
      rfl
    · obtain ⟨_, ⟨_, _, lp, _⟩, _⟩ := h
      exact absurd lp (Nat.not_lt_zero _)
  | succ n ih =>
    have c_laid := ih
    refine cl_of (k := n + 1) D sc__law_laid (fun vs H Q E h => ?_) (fun f cdv A outer s H vs Q E hr h => ?_)
    · obtain ⟨q, ⟨⟨v, a, u, rfl, _⟩, _⟩, _⟩ := h
      rfl
    · obtain ⟨⟨t, p, u, o⟩, ⟨⟨v, a, ov, rfl, tv, hp, tO⟩, hs, lp, big⟩, q⟩ := h
      refine ⟨_, (pss_cons (ps_if (pt_cmpR (op_eqD hr.units) (pv 1) (pe_tup pa_nil) (nomark _))
        (pss_one (ps_ret (pv 2)))
        pss_nil)
      (pss_cons (ps_set (i := 3) sc__law_laid.nd rfl (.inl rfl) (pe_ix ix_tup (pv 0) pe_int (fun _ _ => rfl)))
      (pss_cons (ps_set (i := 4) sc__law_laid.nd rfl (.inl rfl) (pe_ix ix_tup (pv 1) pe_int (fun _ _ => rfl)))
      (pss_one (ps_ret (pe_tup (pa_cons (pe_ix ix_tup (pv 0) pe_int (fun _ _ => rfl)) (pa_cons (pe_ix ix_tup (pv 0) pe_int (fun _ _ => rfl)) (pa_cons (pe_op op_catA (pe_op op_catA (pe_slice sl_tupA (pv 3) po_none (po_some (pv 4))) (pe_tup (pa_cons (pe_cl c_laid hr (by first | decide | omega) (by rfl) (pa_cons (pe_ix ix_tup (pv 3) (pv 4) (fun _ _ => rfl)) (pa_cons (pe_slice sl_tupA (pv 1) (po_some pe_int) po_none) (pa_cons (pv 2) pa_nil)))) pa_nil))) (pe_slice sl_tupA (pv 3) (po_some (pe_op op_add (pv 4) pe_int)) po_none)) pa_nil))))))))), ?_⟩
      replace tv : TmV K H t v := tv
      replace hp : SqT K H a (p.map vi) := hp
      replace tO : TmV K H o ov := tO
      replace hs : sub p t = some u := hs
      replace lp : p.length < n + 1 := lp
      replace big : t.sz ≤ 100 := big
      replace q : ∀ r H', Ex H H' → TmV K H' (rep p t o) r → Q r H' := q
      cases p with
      | nil => exact q_when (b := true) (ev_path0 (K := K) (p := []) (ev_var rfl) hp) (fun _ H1 e1 => s_ret (ev_var rfl) fun H2 e2 => q _ H2 (e1.trans e2) (tO.et (Dw.Ex.et (e1.trans e2)))) (fun hb => by cases hb)
      | cons k p =>
        refine q_when (b := false) (ev_path0 (K := K) (p := k :: p) (ev_var rfl) hp) (fun hb => by cases hb) (fun _ H1 e1 => ?_)
        have h2 : t.kids[k]?.bind (sub p) = some u := hs
        cases hv : t.kids[k]? with
        | none =>
          rw [hv] at h2
          cases h2
        | some v' =>
        rw [hv] at h2
        replace h2 : sub p v' = some u := h2
        obtain ⟨a1, b1, f1, vs1, rfl, g1, g2, tms1, sdeed⟩ := (tv.et (Dw.Ex.et e1)).kidsV hv
        have kl : k < t.kids.length := (List.getElem?_eq_some_iff.mp hv).1
        have lvs := tms1.len
        have few : t.kids.length ≤ 100 := by
          rw [sdeed, Tm.sz] at big
          have := len_szs t.kids
          omega
        refine q_asg (ev_op (ev_var rfl) ev_c (rv_ixT (K := K) g1 (atI_vi (k := 2) rfl))) fun H2 e2 => ?_
        refine q_asg (v := vi k) (ev_op (ev_var rfl) ev_c (rv_ixT (K := K) (ex_t (e1.trans e2) hp) (atI_vi (k := 0) rfl))) fun H3 e3 => ?_
        have e13 := e2.trans e3
        have e03 := e1.trans e13
        obtain ⟨w1, g3, g4⟩ := (tms1.et (Dw.Ex.et e13)).put kl
        rw [(List.getElem?_eq_some_iff.mp hv).2] at g4
        show tRet _ _ [some (.ref a1), some (.ref a), some ov, some (.ref b1), some (vi k)] H3
        have g1' := ex_t e13 g1
        have g2' := ex_t e13 g2
        have hp3 := ex_t e03 hp
        have tl : EvP (tSl (rSlA K) (tVar 1) (tPart (tC (.int 1))) tNoPart) [some (.ref a1), some (.ref a), some ov, some (.ref b1), some (vi k)] H3 (fun v H' => TupV K H' v (((k :: p).map vi).drop 1)) := ep_cutFrom (K := K) (k := 1) (ev_var rfl) hp3 ev_c (by rw [List.length_map, List.length_cons]; omega)
        have mid : EvP (tTup (tCons (tCall (sp_laid K n) [] E0 (tCons (tOp (rIxT K) (tVar 3) (tVar 4)) (tCons (tSl (rSlA K) (tVar 1) (tPart (tC (.int 1))) tNoPart) (tCons (tVar 2) tNil)))) tNil)) [some (.ref a1), some (.ref a), some ov, some (.ref b1), some (vi k)] H3 (fun v H' => ∃ x, TupV K H' v [x] ∧ TmV K H' (rep p v' o) x) := by
          intro H4 e4 Q2 q2
          refine do_tup (do_cons (do_cons (do_ev (fun H5 e5 => ev_op (ev_var rfl) (ev_var rfl) (rv_ixT (K := K) g2' (atI_vi (k := k) g3)) H5 (e4.trans e5)) fun H5 e5 => do_cons (tl H5 (e4.trans e5) _ fun r H6 e6 hr6 => do_cons (do_ev (ev_var rfl) fun H7 e7 => do_nil ?_)))))
          obtain ⟨ra, rfl, sr⟩ := hr6
          have e37 := ((e4.trans e5).trans e6).trans e7
          refine ⟨RArg6.mk v' p u o, ⟨⟨w1, ra, ov, rfl, g4.et (Dw.Ex.et e37), ex_t e7 sr, tO.et (Dw.Ex.et (e03.trans e37))⟩, h2, by show p.length < n; rw [List.length_cons] at lp; omega, Nat.le_trans (Nat.le_of_lt (sz_kid hv)) big⟩, fun x H8 e8 hx => do_nil ⟨by show 1 ≤ sizeLine; decide, fun c nc => ?_⟩⟩
          exact q2 _ _ ((((e5.trans e6).trans e7).trans e8).trans (Ex.new nc)) ⟨x, ⟨c, rfl, st_of upd_same⟩, TmV.et (Dw.Ex.et (Ex.new nc)) hx⟩
        have left := ep_cutTo (K := K) (k := k) (ta := tVar 3) (tb := tVar 4) (σ := [some (.ref a1), some (.ref a), some ov, some (.ref b1), some (vi k)]) (H := H3) (ev_var rfl) g2' (ev_var rfl) (by omega)
        have right := ep_cutFrom (K := K) (k := k + 1) (ta := tVar 3) (tb := tOp (rI0 fun i j => .int (i + j)) (tVar 4) (tC (.int 1))) (σ := [some (.ref a1), some (.ref a), some ov, some (.ref b1), some (vi k)]) (H := H3) (ev_var rfl) g2' (ev_addM (a := k) (b := 1) (ev_var rfl) ev_c) (by omega)
        have lt1 : (vs1.take k).length ≤ 100 := by rw [List.length_take]; omega
        have ld1 : (vs1.drop (k + 1)).length ≤ 100 := by rw [List.length_drop]; omega
        refine do_ret (do_tup (do_cons (do_ev (ev_op (ev_var rfl) ev_c (rv_ixT (K := K) g1' (atI_vi (k := 0) rfl))) fun H4 e4 => do_cons (do_ev (ev_op (ev_var rfl) ev_c (rv_ixT (K := K) (ex_t e4 g1') (atI_vi (k := 1) rfl))) fun H5 e5 => do_cons (do_op (do_op (left H5 (e4.trans e5) _ fun lv H6 e6 hl6 => mid H6 ((e4.trans e5).trans e6) _ fun mv H7 e7 hm7 => ?_)))))))
        obtain ⟨x, hm, tx⟩ := hm7
        have e37 := ((e4.trans e5).trans e6).trans e7
        refine cat_at (K := K) (hl6.ex e7) hm (by show _ + 1 ≤ 100000; omega) fun cv H8 e8 hc => ?_
        refine right H8 (e37.trans e8) _ fun rv H9 e9 hr9 => ?_
        refine cat_at (K := K) (hc.ex e9) hr9 (by rw [List.length_append]; show _ + 1 + _ ≤ 100000; omega) fun av H10 e10 hA => do_nil ⟨by show 3 ≤ sizeLine; decide, fun r nr => ?_⟩
        obtain ⟨ca, rfl, sca⟩ := hA
        have e710 := (e8.trans e9).trans e10
        have e310 := e37.trans e710
        have x11 : Ex H10 (upd H10 r (.tup [.str "deed", .str f1, .ref ca])) := Ex.new nr
        refine q _ _ (e03.trans (e310.trans x11)) ?_
        have rs := rep_step (p := k :: p) (i := 0) (o := o) rfl sdeed hv
        rw [List.drop_zero] at rs
        rw [rs]
        refine tmv_deed (st_of upd_same) (ex_t x11 sca) ?_
        have part := ((tms1.take k).et (Dw.Ex.et (e13.trans (e310.trans x11)))).app (TmsV.one (tx.et (Dw.Ex.et (e710.trans x11)))) |>.app ((tms1.drop (k + 1)).et (Dw.Ex.et (e13.trans (e310.trans x11))))
        rw [List.append_assoc] at part
        exact part
end
end K02
end
section
namespace K02
open PySem PySem.Spec PyProof.Rows L2 Evl RZ Dw M20
section
variable {P : Program} {w : World} {K : PySem.W.Frag} {mg : Str → Option Value} {base : Heap} {σ : L2.St} {H : Hp} {P0 B0 T0 G0 a1 a2 a3 a4 a5 a6 : Addr} {va : Addr}
def StrsV (H : Hp) (v : V) (ws : List Str) : Prop := ∃ l, v = .ref l ∧ H l = some (.lst (ws.map V.str))
theorem StrsV.ex {H' : Hp} {v : V} {ws : List Str} (e : Ex H H') (h : StrsV H v ws) : StrsV H' v ws := let ⟨l, a, b⟩ := h; ⟨l, a, e _ _ b⟩
theorem do_callS {sp : Sp} {E : L2.St → XK} {ta : TA} {D : Ends} (h : ta σ H fun vs H1 => sp vs H1 (fun _ H2 => D.nx σ H2) (E σ)) : tDrop (tCallS sp E ta) D σ H := h
end
end K02
end
section
namespace K02
open PySem PySem.Spec PyProof.Rows L2 Evl RZ Dw M20
section
variable {P : Program} {w : World} {K : PySem.W.Frag} {mg : Str → Option Value} {base : Heap} {σ : L2.St} {H : Hp} {P0 B0 T0 G0 : Addr} {va : Addr}
/-- can be shown -/
def RpV (K : PySem.W.Frag) (H : Hp) (v : V) : Prop := (∃ (a : Addr) (d : PyData), v = .ref a ∧ Dp K H (.ref a) d ∧ Gd 5 100000 d) ∨ v = .non ∨ (∃ i : Int, v = .int i ∧ i.natAbs.log2 < 1920) ∨ ∃ z : Str, v = .str z ∧ (reprText z).length ≤ sizeLine
mutual
theorem dp_ex {H' : Hp} (e : Ex H H') : ∀ {v : V} {d : PyData}, Dp K H v d → Dp K H' v d
  | _, _, .non => .non
  | _, _, .bl b => .bl b
  | _, _, .int i => .int i
  | _, _, .str x => .str x
  | _, _, .lst s h => .lst (ex_l e s) (dps_ex e h)
  | _, _, .tup s h => .tup (ex_t e s) (dps_ex e h)
theorem dps_ex {H' : Hp} (e : Ex H H') : ∀ {vs : List V} {ds : List PyData}, DpAll K H vs ds → DpAll K H' vs ds
  | _, _, .nil => .nil
  | _, _, .cons a b => .cons (dp_ex e a) (dps_ex e b)
end
theorem RpV.ex {H' : Hp} {v : V} (e : Ex H H') (h : RpV K H v) : RpV K H' v := h.imp (fun ⟨a, d, h1, h2, h3⟩ => ⟨a, d, h1, dp_ex e h2, h3⟩) id
/-- what _law_odd looks at -/
def ThV (K : PySem.W.Frag) (H : Hp) (t : Tm) (v : V) : Prop := (OddV K H t v ∧ RpV K H v) ∨ ∃ a, v = .ref a ∧ SqT K H a []
theorem ThV.ex {H' : Hp} {t : Tm} {v : V} (e : Ex H H') (h : ThV K H t v) : ThV K H' t v := h.imp (fun ⟨a, b⟩ => ⟨a.ex e, b.ex e⟩) fun ⟨a, h1, h2⟩ => ⟨a, h1, ex_t e h2⟩
def gdN (p : List Nat) : Prop := ∀ k ∈ p, k ≤ 1000
theorem gd_nats {p : List Nat} (h : gdN p) : ∀ d ∈ natsD p, Gd 0 10 d := fun d hd => by
  obtain ⟨k, hk, e⟩ := List.mem_map.mp hd
  rw [← e]
  exact gd_int (h k hk)
end
end K02
end
section
namespace K02
open PySem PySem.Spec PyProof.Rows L2 Evl RZ Dw M20
section
variable {P : Program} {w : World} {K : PySem.W.Frag} {mg : Str → Option Value} {base : Heap} {σ : L2.St} {H : Hp} {P0 B0 T0 G0 : Addr} {va : Addr}
theorem s_whenE {c : TT} {tu : TS} {D : Ends} (h : c σ H fun b H1 => if b = true then tu D σ H1 else D.nx σ H1) : tIfS c tu tNext D σ H := h
theorem do_tst {te : TE} {Q : Bool → Hp → Prop} (h : te σ H fun x H' => ∃ k, x = .bl k ∧ Q k H') : tTest te σ H Q := h
end
end K02
end
section
namespace K02
open PySem PySem.Spec PyProof.Rows L2 Evl RZ Dw M20
section
variable {P : Program} {w : World} {K : PySem.W.Frag} {mg : Str → Option Value} {base : Heap} {σ : L2.St} {H : Hp} {P0 B0 T0 G0 : Addr} {va : Addr}
/-! words -/
def dWs (ws : List Str) : PyData := .list (ws.map PyData.str)
theorem StrsV.dp {v : V} {ws : List Str} (h : StrsV H v ws) : Dp K H v (dWs ws) := by
  obtain ⟨l, rfl, hl⟩ := h
  exact .lst (sq_of hl) (dps_strs ws)
def dPs (ps : List (List Nat)) : PyData := .list (ps.map fun p => .tuple (natsD p))
theorem dps_paths {as : List Addr} {ps : List (List Nat)} (h : Paired (fun a p => SqT K H a (p.map vi)) as ps) : DpAll K H (as.map V.ref) (ps.map fun p => .tuple (natsD p)) := by
  induction h with
  | nil => exact .nil
  | cons a b ih => exact .cons (.tup a (dps_vi _)) ih
theorem PathsV.dp {l : Addr} {ps : List (List Nat)} (h : PathsV K H l ps) : Dp K H (.ref l) (dPs ps) := by
  obtain ⟨as, ha, pr⟩ := h
  exact .lst (sq_of ha) (dps_paths pr)
theorem SpsV.len {v : V} {y : Tm} (h : SpsV K H v (y.spots [])) : ∃ l us, v = .ref l ∧ H l = some (.lst us) ∧ us.length = y.sz := by
  obtain ⟨l, us, rfl, hl, pr⟩ := h
  exact ⟨l, us, rfl, hl, by rw [← spots_len y []]; exact paired_len pr⟩
end
end K02
end
section
namespace K02
open PySem PySem.Spec PyProof.Rows L2 Evl RZ Dw M20
section
variable {P : Program} {w : World} {K : PySem.W.Frag} {mg : Str → Option Value} {base : Heap} {σ : L2.St} {H : Hp} {P0 B0 T0 G0 : Addr} {va : Addr}
end
end K02
end
section
namespace K02
open PySem PySem.Spec PyProof.Rows L2 Evl RZ Dw M20
/-- a bent term: a letter, a deed over bent terms, anything else -/
inductive Bt where
  | var (x : Str)
  | deed (f : Str) (ts : List Bt)
  | odd (d : PyData)
/-- what is no text -/
inductive NoStr (K : PySem.W.Frag) (H : Hp) : V → Prop where
  | non : NoStr K H .non
  | int (i : Int) : NoStr K H (.int i)
  | tup {a : Addr} {xs : List V} (h : SqT K H a xs) : NoStr K H (.ref a)
/-- a list that is not of the purse -/
def FarL (H : Hp) (xs : List V) : Prop := xs = [] ∨ ∃ x r, xs = x :: r ∧ ((∃ s, x = .str s) ∨ ∃ b ys, x = .ref b ∧ H b = some (.tup ys))
theorem FarL.ex {H H' : Hp} {xs : List V} (e : Ex H H') (h : FarL H xs) : FarL H' xs := h.imp id fun ⟨x, r, q, z⟩ => ⟨x, r, q, z.imp id fun ⟨b, ys, q, s⟩ => ⟨b, ys, q, e _ _ s⟩⟩
/-- data without lists, or a list of such, or a deed over one -/
inductive Dq (K : PySem.W.Frag) (H : Hp) : V → PyData → Prop where
  | fl {v : V} {d : PyData} (h : Dp K H v d) (nl : noL d = true) : Dq K H v d
  | lst {a : Addr} {xs : List V} {ds : List PyData} (h : H a = some (.lst xs)) (hd : DpAll K H xs ds) (nl : noLs ds = true) (far : FarL H xs) : Dq K H (.ref a) (.list ds)
  | deed {a b : Addr} {f : Str} {xs : List V} {ds : List PyData} (h0 : SqT K H a [.str "deed", .str f, .ref b]) (h : H b = some (.lst xs)) (hd : DpAll K H xs ds) (nl : noLs ds = true) (far : FarL H xs) : Dq K H (.ref a) (.tuple [.str "deed", .str f, .list ds])
theorem Dq.dp {K : PySem.W.Frag} {H : Hp} {v : V} {d : PyData} (h : Dq K H v d) : Dp K H v d := by
  cases h with
  | fl h => exact h
  | lst h hd => exact .lst (sq_of h) hd
  | deed h0 h hd => exact .tup h0 (.cons (.str _) (.cons (.str _) (.cons (.lst (sq_of h) hd) .nil)))
theorem Dq.ex {K : PySem.W.Frag} {H H' : Hp} {v : V} {d : PyData} (e : Ex H H') (h : Dq K H v d) : Dq K H' v d := by
  cases h with
  | fl h nl => exact .fl (dp_ex e h) nl
  | lst h hd nl far => exact .lst (e _ _ h) (dps_ex e hd) nl (far.ex e)
  | deed h0 h hd nl far => exact .deed (ex_t e h0) (e _ _ h) (dps_ex e hd) nl (far.ex e)
/-- what is no tuple (truths too) -/
inductive NoTu (H : Hp) : V → Prop where
  | non : NoTu H .non
  | int (i : Int) : NoTu H (.int i)
  | bl (b : Bool) : NoTu H (.bl b)
  | str (z : Str) : NoTu H (.str z)
  | lst {a : Addr} {xs : List V} (h : H a = some (.lst xs)) (far : FarL H xs) : NoTu H (.ref a)
/-- no term's form, at its own place -/
inductive NF (K : PySem.W.Frag) (H : Hp) (sg : List (Str × Nat)) : V → Prop where
  | tup {v : V} (h : NoTu H v) : NF K H sg v
  | len {a : Addr} {xs : List V} (h : SqT K H a xs) (h2 : xs.length ≠ 2) (h3 : xs.length ≠ 3) : NF K H sg (.ref a)
  | two {a : Addr} {z : Str} {x : V} (h : SqT K H a [.str z, x]) (ne : z ≠ "var") : NF K H sg (.ref a)
  | letter {a : Addr} {x : V} (h : SqT K H a [.str "var", x]) (fl : flatV x = true) (no : inV x (vars.map V.str) = false) : NF K H sg (.ref a)
  | three {a : Addr} {z : Str} {x y : V} (h : SqT K H a [.str z, x, y]) (ne : z ≠ "deed") : NF K H sg (.ref a)
  | name {a : Addr} {x y : V} (h : SqT K H a [.str "deed", x, y]) (no : NoStr K H x) : NF K H sg (.ref a)
  | terms {a : Addr} {f : Str} {y : V} (h : SqT K H a [.str "deed", .str f, y]) (no : NoTu H y) : NF K H sg (.ref a)
  | many {a b : Addr} {f : Str} {us : List V} (h : SqT K H a [.str "deed", .str f, .ref b]) (h2 : SqT K H b us) (no : (f, us.length) ∉ sg) (sk : PyData.strOk f = true) : NF K H sg (.ref a)
section
variable {P : Program} {w : World} {K : PySem.W.Frag} {mg : Str → Option Value} {base : Heap} {σ : L2.St} {H H' : Hp} {va : Addr} {sg : List (Str × Nat)}
theorem NoStr.ex {v : V} (e : Ex H H') (h : NoStr K H v) : NoStr K H' v := by
  cases h with
  | non => exact .non
  | int i => exact .int i
  | tup h => exact .tup (ex_t e h)
theorem NoTu.ex {v : V} (e : Ex H H') (h : NoTu H v) : NoTu H' v := by
  cases h with
  | non => exact .non
  | int i => exact .int i
  | bl b => exact .bl b
  | str z => exact .str z
  | lst h far => exact .lst (e _ _ h) (far.ex e)
theorem NF.ex {v : V} (e : Ex H H') (h : NF K H sg v) : NF K H' sg v := by
  cases h with
  | tup h => exact .tup (h.ex e)
  | len h h2 h3 => exact .len (ex_t e h) h2 h3
  | two h ne => exact .two (ex_t e h) ne
  | letter h fl no => exact .letter (ex_t e h) fl no
  | three h ne => exact .three (ex_t e h) ne
  | name h no => exact .name (ex_t e h) (no.ex e)
  | terms h no => exact .terms (ex_t e h) (no.ex e)
  | many h h2 no sk => exact .many (ex_t e h) (ex_t e h2) no sk
mutual
def BtV (K : PySem.W.Frag) (H : Hp) (sg : List (Str × Nat)) : Bt → V → Prop
  | .var x => fun v => ∃ a, v = .ref a ∧ SqT K H a [.str "var", .str x]
  | .deed f ts => fun v => ∃ a b vs, v = .ref a ∧ SqT K H a [.str "deed", .str f, .ref b] ∧ SqT K H b vs ∧ BtsV K H sg ts vs
  | .odd d => fun v => Dq K H v d ∧ NF K H sg v
def BtsV (K : PySem.W.Frag) (H : Hp) (sg : List (Str × Nat)) : List Bt → List V → Prop
  | [] => fun vs => vs = []
  | t :: ts => fun vs => ∃ v us, vs = v :: us ∧ BtV K H sg t v ∧ BtsV K H sg ts us
end
mutual
/-- letters and deeds in their form -/
def Bt.ok (sg : List (Str × Nat)) : Bt → Prop
  | .var x => x ∈ vars
  | .deed f ts => (f, ts.length) ∈ sg ∧ boks sg ts
  | .odd _ => True
def boks (sg : List (Str × Nat)) : List Bt → Prop
  | [] => True
  | t :: ts => t.ok sg ∧ boks sg ts
end
mutual
theorem BtV.ex (e : Ex H H') : ∀ {t : Bt} {v : V}, BtV K H sg t v → BtV K H' sg t v
  | .var x, v, h => by
    rw [BtV] at h ⊢
    obtain ⟨a, q, s⟩ := h
    exact ⟨a, q, ex_t e s⟩
  | .deed f ts, v, h => by
    rw [BtV] at h ⊢
    obtain ⟨a, b, vs, q, s, s2, r⟩ := h
    exact ⟨a, b, vs, q, ex_t e s, ex_t e s2, BtsV.ex e r⟩
  | .odd d, v, h => by
    rw [BtV] at h ⊢
    exact ⟨h.1.ex e, h.2.ex e⟩
theorem BtsV.ex (e : Ex H H') : ∀ {ts : List Bt} {vs : List V}, BtsV K H sg ts vs → BtsV K H' sg ts vs
  | [], vs, h => by
    rw [BtsV] at h ⊢
    exact h
  | t :: ts, vs, h => by
    rw [BtsV] at h ⊢
    obtain ⟨v, us, q, a, b⟩ := h
    exact ⟨v, us, q, BtV.ex e a, BtsV.ex e b⟩
end
theorem BtsV.len : ∀ {ts : List Bt} {vs : List V}, BtsV K H sg ts vs → vs.length = ts.length
  | [], vs, h => by
    rw [BtsV] at h
    rw [h]
    rfl
  | t :: ts, vs, h => by
    rw [BtsV] at h
    obtain ⟨v, us, rfl, _, b⟩ := h
    rw [List.length_cons, List.length_cons, BtsV.len b]
/-- has it a term's form? -/
def Bt.fits : Bt → Bool
  | .odd _ => false
  | _ => true
/-- the dict of a signature's deeds, and nothing else -/
def PlcX (H : Hp) (d : Addr) (sg : List (Str × Nat)) : Prop := ∃ kvs : List (Key × V), H d = some (.dK kvs) ∧ (∀ p ∈ sg, valV kvs (.inr p.1) = some (vi p.2)) ∧ ∀ x, x ∉ sg.map (·.1) → valV kvs (.inr x) = none
theorem PlcX.ex {d : Addr} (e : Ex H H') (h : PlcX H d sg) : PlcX H' d sg := let ⟨k, a, b⟩ := h; ⟨k, e _ _ a, b⟩
theorem kit_bt : PySem.W.kitOne K (.type "bool") (.type "tuple") = some false := kit_ty (by decide +kernel)
theorem kit_is : PySem.W.kitOne K (.type "int") (.type "str") = some false := kit_ty (by decide +kernel)
theorem kit_ns : PySem.W.kitOne K (.type "NoneType") (.type "str") = some false := kit_ty (by decide +kernel)
theorem kit_ts : PySem.W.kitOne K (.type "tuple") (.type "str") = some false := kit_ty (by decide +kernel)
theorem ev_noTu {ta tb : TE} {x : V} (ha : Ev ta σ H x) (hc : Ev tb σ H (.ty "tuple")) (h : NoTu H x) : Ev (tCB (rIsi K) (tCons ta (tCons tb tNil))) σ H (.bl false) := by
  cases h with
  | non => exact ev_isi ha hc (.ty _) (fun _ _ => tyx_non) kit_nt
  | int i => exact ev_isi ha hc (.ty _) (fun _ _ => tyx_int i) kit_it
  | bl b => exact ev_isi ha hc (.ty _) (fun _ _ => tyx_bl b) kit_bt
  | str z => exact ev_isi ha hc (.ty _) (fun _ _ => tyx_str z) kit_st
  | lst h _ => exact ev_isi ha hc (.ty _) (fun _ e => .base (.lst (e _ _ h))) kit_lt
theorem ev_noStr {ta tb : TE} {x : V} (ha : Ev ta σ H x) (hc : Ev tb σ H (.ty "str")) (h : NoStr K H x) : Ev (tCB (rIsi K) (tCons ta (tCons tb tNil))) σ H (.bl false) := by
  cases h with
  | non => exact ev_isi ha hc (.ty _) (fun _ _ => tyx_non) kit_ns
  | int i => exact ev_isi ha hc (.ty _) (fun _ _ => tyx_int i) kit_is
  | tup h => exact ev_isi ha hc (.ty _) (fun _ e => tyx_tup (ex_t e h)) kit_ts
def sp_form_any (K : PySem.W.Frag) : Sp := spX (fun (p : List (Str × Nat) × Bt) vs H => (∃ d v, vs = [.ref d, v] ∧ PlcX H d p.1 ∧ BtV K H p.1 p.2 v) ∧ p.2.ok p.1 ∧ (p.1.map (·.1)).Nodup) (fun p v _ => v = .bl p.2.fits)
theorem c_form_any (T : Txt mg) (V0 : Vars K mg va) (D : Df K mg "has_term_form" s_has_term_form ["places", "thing"]) : Cl P w K mg base 1 "has_term_form" (sp_form_any K) := by
  refine cl_of (k := 0) D sc_has_term_form (fun vs H Q E h => ?_) (fun f cdv A outer s H vs Q E hr h => ?_)
  · obtain ⟨p, ⟨⟨d, v, rfl, _⟩, _⟩, _⟩ := h
    rfl
  · obtain ⟨⟨sg, t⟩, ⟨⟨d, v, rfl, ⟨kvs, hd, val, out⟩, tv⟩, ok, nd⟩, q⟩ := h
    refine ⟨_, (pss_cons (ps_if (pt_not (pt_val (pe_callB call_isi (by rfl) T.z_isinstance (by decide +kernel) (pa_cons (pv 1) (pa_cons (pe_ty "tuple" (by rfl) T.z_tuple (by decide +kernel)) pa_nil)))))
        (pss_one (ps_ret pe_bl))
        pss_nil)
      (pss_cons (ps_if (pt_cmpR op_eq (pe_callB call_len_seq (by rfl) T.z_len PySem.boot_len (pa_cons (pv 1) pa_nil)) pe_int (nomark _))
        (pss_one (ps_ret (pe_and (pe_cmpR op_eq (pe_ix ix_tup (pv 1) pe_int (fun _ _ => rfl)) pe_str (nomark _)) (pe_one (pe_cmpR op_in_seq (pe_ix ix_tup (pv 1) pe_int (fun _ _ => rfl)) (pe_gv (by rfl) V0.at_) (by rfl))))))
        pss_nil)
      (pss_cons (ps_if (PW.pt (pw_or (pt_cmpR op_ne (pe_callB call_len_seq (by rfl) T.z_len PySem.boot_len (pa_cons (pv 1) pa_nil)) pe_int (nomark _)) (pw_or1 (pt_cmpR op_ne (pe_ix ix_tup (pv 1) pe_int (fun _ _ => rfl)) pe_str (nomark _)))))
        (pss_one (ps_ret pe_bl))
        pss_nil)
      (pss_cons (ps_par (i := 2) (j := 3) (by rfl) sc_has_term_form.nd rfl rfl (by decide) rfl rfl (pa_cons (pe_ix ix_tup (pv 1) pe_int (fun _ _ => rfl)) (pa_cons (pe_ix ix_tup (pv 1) pe_int (fun _ _ => rfl)) pa_nil)) (by rfl))
      (pss_one (ps_ret (pe_and (pe_callB call_isi (by rfl) T.z_isinstance (by decide +kernel) (pa_cons (pv 2) (pa_cons (pe_ty "str" (by rfl) T.z_str (by decide +kernel)) pa_nil))) (pe_and (pe_cmp (pc_din (hu_of hr) (pv 2) (pv 0))) (pe_and (pe_callB call_isi (by rfl) T.z_isinstance (by decide +kernel) (pa_cons (pv 3) (pa_cons (pe_ty "tuple" (by rfl) T.z_tuple (by decide +kernel)) pa_nil))) (pe_one (pe_cmpR op_eq (pe_callB call_len_seq (by rfl) T.z_len PySem.boot_len (pa_cons (pv 3) pa_nil)) (pe_dget (hu_of hr) (pv 0) (pv 2) (fun _ _ => rfl)) (nomark _)))))))))))), ?_⟩
    replace tv : BtV K H sg t v := tv
    replace ok : t.ok sg := ok
    replace nd : (sg.map (·.1)).Nodup := nd
    replace val : ∀ p ∈ sg, valV kvs (.inr p.1) = some (vi p.2) := val
    replace out : ∀ x, x ∉ sg.map (·.1) → valV kvs (.inr x) = none := out
    replace q : ∀ r H', Ex H H' → r = .bl t.fits → Q r H' := q
    have isT : ∀ {a : Addr} {xs : List V}, SqT K H a xs → ∀ {H1 : Hp}, Ex H H1 → ∀ {y2 y3 : Option V}, EvT (tNot (tB (tCB (rIsi K) (tCons (tVar 1) (tCons (tC (.ty "tuple")) tNil))))) [some (.ref d), some (.ref a), y2, y3] H1 false := fun {a xs} h {H1} e1 {y2 y3} => et_is (et_not (et_val (ev_isi (ev_var rfl) ev_c (.ty _) (fun _ e => tyx_tup (ex_t (e1.trans e) h)) kit_tt))) rfl
    have len2 : ∀ {a : Addr} {xs : List V}, SqT K H a xs → ∀ {H1 : Hp}, Ex H H1 → ∀ {y2 y3 : Option V}, EvT (tTest (tOp rEq (tCB (rLenS K) (tCons (tVar 1) tNil)) (tC (.int 2)))) [some (.ref d), some (.ref a), y2, y3] H1 (decide (xs.length = 2)) := fun {a xs} h {H1} e1 {y2 y3} => et_is (et_test (ev_op (ev_lenT (ev_var rfl) (ex_t e1 h)) ev_c (rv_eq rfl))) (by
      show decide (V.int (xs.length : Int) = V.int 2) = _
      by_cases z : xs.length = 2
      · rw [decide_eq_true z, decide_eq_true (by rw [z]; rfl)]
      · rw [decide_eq_false z, decide_eq_false (fun y => z (by
          injection y with y
          omega))])
    have ne3 : ∀ {a : Addr} {xs : List V}, SqT K H a xs → ∀ {H1 : Hp}, Ex H H1 → ∀ {y2 y3 : Option V}, EvT (tTest (tOp rNe (tCB (rLenS K) (tCons (tVar 1) tNil)) (tC (.int 3)))) [some (.ref d), some (.ref a), y2, y3] H1 (!decide (xs.length = 3)) := fun {a xs} h {H1} e1 {y2 y3} => et_is (et_test (ev_op (ev_lenT (ev_var rfl) (ex_t e1 h)) ev_c (rv_ne rfl))) (by
      show (!decide (V.int (xs.length : Int) = V.int 3)) = _
      by_cases z : xs.length = 3
      · rw [decide_eq_true z, decide_eq_true (by rw [z]; rfl)]
      · rw [decide_eq_false z, decide_eq_false (fun y => z (by
          injection y with y
          omega))])
    have at0 : ∀ {a : Addr} {x : V} {xs : List V} {k : Nat}, SqT K H a xs → xs[k]? = some x → ∀ {H1 : Hp}, Ex H H1 → ∀ {y2 y3 : Option V}, Ev (tOp (rIxT K) (tVar 1) (tC (vi k))) [some (.ref d), some (.ref a), y2, y3] H1 x := fun {a x xs k} h hk {H1} e1 {y2 y3} => ev_op (ev_var rfl) ev_c (rv_ixT (K := K) (ex_t e1 h) (atI_vi (k := k) hk))
    have str_ne : ∀ {z y : Str}, z ≠ y → decide (V.str z = V.str y) = false := fun {z y} h => decide_eq_false (fun e => h (by injection e))
    have noF : ∀ {y2 y3 : Option V} {w0 : V} {H1 : Hp}, Ex H H1 → t.fits = false → tRet (tC (.bl false)) { nx := fun _ H' => Q .non H', rt := Q } [some (.ref d), some w0, y2, y3] H1 := fun {y2 y3 w0 H1} e1 hf => s_ret (v := .bl false) ev_c fun H2 e2 => q _ H2 (e1.trans e2) (by rw [hf])
    cases t with
    | var x =>
      rw [BtV] at tv
      rw [Bt.ok] at ok
      obtain ⟨a, rfl, ha⟩ := tv
      refine q_when (b := false) (isT ha (Ex.refl _)) (fun hb => by cases hb) (fun _ H1 e1 => ?_)
      refine q_when (b := true) (len2 ha e1) (fun _ H2 e2 => ?_) (fun hb => by cases hb)
      have e02 := e1.trans e2
      refine s_ret (v := .bl true) (ev_is (ev_andV (ev_op (at0 (k := 0) ha rfl e02) ev_c (rv_eq rfl)) (fun _ => ev_op (at0 (k := 1) ha rfl e02) ev_c (rv_isT (V0.sq _) rfl (flat_strs vars)))) (by rw [inV_str, decide_eq_true ok]; rfl)) fun H3 e3 => q _ H3 (e02.trans e3) rfl
    | deed f ts =>
      rw [BtV] at tv
      rw [Bt.ok] at ok
      obtain ⟨a, b, us, rfl, ha, hb, tms⟩ := tv
      obtain ⟨mem, _⟩ := ok
      have lu := tms.len
      have vf := val _ mem
      refine q_when (b := false) (isT ha (Ex.refl _)) (fun hb => by cases hb) (fun _ H1 e1 => ?_)
      refine q_when (b := false) (len2 ha e1) (fun hb => by cases hb) (fun _ H2 e2 => ?_)
      have e02 := e1.trans e2
      refine q_when (b := false) (et_is (et_or (a := false) (b := false) (ne3 ha e02) (fun _ => et_is (et_test (ev_op (at0 (k := 0) ha rfl e02) ev_c (rv_ne rfl))) (by decide))) rfl) (fun hb => by cases hb) (fun _ H3 e3 => ?_)
      have e03 := e02.trans e3
      refine do_par ((ea_cons (at0 (k := 1) ha rfl e03) (ea_cons (at0 (k := 2) ha rfl e03) ea_nil)) H3 (Ex.refl _) _ fun H4 e4 => ⟨_, _, rfl, ?_⟩)
      have e04 := e03.trans e4
      show tRet _ _ [some (.ref d), some (.ref a), some (.str f), some (.ref b)] H4
      refine s_ret (v := .bl true) (ev_is (ev_andV (a := true) (ev_isi (ev_var rfl) ev_c (.ty _) (fun _ _ => tyx_str f) kit_ss) (fun _ => ev_andV (a := true) (ev_din (ev_var rfl) (ev_var rfl) (e04 _ _ hd) (by rw [vf]; rfl)) (fun _ => ev_andV (a := true) (ev_isi (ev_var rfl) ev_c (.ty _) (fun _ e => tyx_tup (ex_t (e04.trans e) hb)) kit_tt) (fun _ => ev_op (ev_lenT (ev_var rfl) (ex_t e04 hb)) (ev_dget (ev_var rfl) (ev_var rfl) (e04 _ _ hd) vf) (rv_eq rfl))))) ?_) fun H5 e5 => q _ H5 (e04.trans e5) rfl
      rw [lu]
      simp
    | odd dd =>
      rw [BtV] at tv
      obtain ⟨_, nf⟩ := tv
      cases nf with
      | tup h => exact q_when (b := true) (et_is (et_not (et_val (ev_noTu (K := K) (ev_var rfl) ev_c h))) rfl) (fun _ H1 e1 => noF e1 rfl) (fun hb => by cases hb)
      | len h h2 h3 =>
        refine q_when (b := false) (isT h (Ex.refl _)) (fun hb => by cases hb) (fun _ H1 e1 => ?_)
        refine q_when (b := false) (et_is (len2 h e1) (decide_eq_false h2)) (fun hb => by cases hb) (fun _ H2 e2 => ?_)
        exact q_when (b := true) (et_is (et_or (a := true) (b := false) (et_is (ne3 h (e1.trans e2)) (by rw [decide_eq_false h3]; rfl)) (fun z => by cases z)) rfl) (fun _ H3 e3 => noF ((e1.trans e2).trans e3) rfl) (fun hb => by cases hb)
      | two h ne =>
        refine q_when (b := false) (isT h (Ex.refl _)) (fun hb => by cases hb) (fun _ H1 e1 => ?_)
        refine q_when (b := true) (len2 h e1) (fun _ H2 e2 => ?_) (fun hb => by cases hb)
        exact s_ret (v := .bl false) (ev_is (ev_andV (a := false) (b := false) (ev_is (ev_op (at0 (k := 0) h rfl (e1.trans e2)) ev_c (rv_eq rfl)) (by rw [str_ne ne])) (fun z => by cases z)) rfl) fun H3 e3 => q _ H3 ((e1.trans e2).trans e3) rfl
      | letter h fl no =>
        refine q_when (b := false) (isT h (Ex.refl _)) (fun hb => by cases hb) (fun _ H1 e1 => ?_)
        refine q_when (b := true) (len2 h e1) (fun _ H2 e2 => ?_) (fun hb => by cases hb)
        have e02 := e1.trans e2
        exact s_ret (v := .bl false) (ev_is (ev_andV (ev_op (at0 (k := 0) h rfl e02) ev_c (rv_eq rfl)) (fun _ => ev_op (at0 (k := 1) h rfl e02) ev_c (rv_isT (V0.sq _) fl (flat_strs vars)))) (by rw [no, Bool.and_false])) fun H3 e3 => q _ H3 (e02.trans e3) rfl
      | three h ne =>
        refine q_when (b := false) (isT h (Ex.refl _)) (fun hb => by cases hb) (fun _ H1 e1 => ?_)
        refine q_when (b := false) (len2 h e1) (fun hb => by cases hb) (fun _ H2 e2 => ?_)
        have e02 := e1.trans e2
        exact q_when (b := true) (et_is (et_or (a := false) (b := true) (ne3 h e02) (fun _ => et_is (et_test (ev_op (at0 (k := 0) h rfl e02) ev_c (rv_ne rfl))) (by rw [str_ne ne]; rfl))) rfl) (fun _ H3 e3 => noF (e02.trans e3) rfl) (fun hb => by cases hb)
      | @name a x y h no =>
        refine q_when (b := false) (isT h (Ex.refl _)) (fun hb => by cases hb) (fun _ H1 e1 => ?_)
        refine q_when (b := false) (len2 h e1) (fun hb => by cases hb) (fun _ H2 e2 => ?_)
        have e02 := e1.trans e2
        refine q_when (b := false) (et_is (et_or (a := false) (b := false) (ne3 h e02) (fun _ => et_is (et_test (ev_op (at0 (k := 0) h rfl e02) ev_c (rv_ne rfl))) (by decide))) rfl) (fun hb => by cases hb) (fun _ H3 e3 => ?_)
        have e03 := e02.trans e3
        refine do_par ((ea_cons (at0 (k := 1) h rfl e03) (ea_cons (at0 (k := 2) h rfl e03) ea_nil)) H3 (Ex.refl _) _ fun H4 e4 => ⟨_, _, rfl, ?_⟩)
        have e04 := e03.trans e4
        show tRet _ _ [some (.ref d), some (.ref a), some x, some y] H4
        exact s_ret (v := .bl false) (ev_is (ev_andV (a := false) (b := false) (ev_noStr (K := K) (ev_var rfl) ev_c (no.ex e04)) (fun z => by cases z)) rfl) fun H5 e5 => q _ H5 (e04.trans e5) rfl
      | @terms a f y h no =>
        refine q_when (b := false) (isT h (Ex.refl _)) (fun hb => by cases hb) (fun _ H1 e1 => ?_)
        refine q_when (b := false) (len2 h e1) (fun hb => by cases hb) (fun _ H2 e2 => ?_)
        have e02 := e1.trans e2
        refine q_when (b := false) (et_is (et_or (a := false) (b := false) (ne3 h e02) (fun _ => et_is (et_test (ev_op (at0 (k := 0) h rfl e02) ev_c (rv_ne rfl))) (by decide))) rfl) (fun hb => by cases hb) (fun _ H3 e3 => ?_)
        have e03 := e02.trans e3
        refine do_par ((ea_cons (at0 (k := 1) h rfl e03) (ea_cons (at0 (k := 2) h rfl e03) ea_nil)) H3 (Ex.refl _) _ fun H4 e4 => ⟨_, _, rfl, ?_⟩)
        have e04 := e03.trans e4
        show tRet _ _ [some (.ref d), some (.ref a), some (.str f), some y] H4
        exact s_ret (v := .bl false) (ev_is (ev_andV (a := true) (b := false) (ev_isi (ev_var rfl) ev_c (.ty _) (fun _ _ => tyx_str f) kit_ss) (fun _ => ev_is (ev_andV (b := false) (ev_din (ev_var rfl) (ev_var rfl) (e04 _ _ hd) rfl) (fun _ => ev_is (ev_andV (a := false) (b := false) (ev_noTu (K := K) (ev_var rfl) ev_c (no.ex e04)) (fun z => by cases z)) rfl)) (by rw [Bool.and_false]))) rfl) fun H5 e5 => q _ H5 (e04.trans e5) rfl
      | @many a b f us h h2 no sk =>
        refine q_when (b := false) (isT h (Ex.refl _)) (fun hb => by cases hb) (fun _ H1 e1 => ?_)
        refine q_when (b := false) (len2 h e1) (fun hb => by cases hb) (fun _ H2 e2 => ?_)
        have e02 := e1.trans e2
        refine q_when (b := false) (et_is (et_or (a := false) (b := false) (ne3 h e02) (fun _ => et_is (et_test (ev_op (at0 (k := 0) h rfl e02) ev_c (rv_ne rfl))) (by decide))) rfl) (fun hb => by cases hb) (fun _ H3 e3 => ?_)
        have e03 := e02.trans e3
        refine do_par ((ea_cons (at0 (k := 1) h rfl e03) (ea_cons (at0 (k := 2) h rfl e03) ea_nil)) H3 (Ex.refl _) _ fun H4 e4 => ⟨_, _, rfl, ?_⟩)
        have e04 := e03.trans e4
        show tRet _ _ [some (.ref d), some (.ref a), some (.str f), some (.ref b)] H4
        by_cases mem : f ∈ sg.map (·.1)
        · obtain ⟨pr, hpr, epr⟩ := List.mem_map.mp mem
          obtain ⟨f', n⟩ := pr
          cases (show f' = f from epr)
          have vf : valV kvs (.inr f) = some (vi n) := val _ hpr
          refine s_ret (v := .bl false) (ev_is (ev_andV (a := true) (b := false) (ev_isi (ev_var rfl) ev_c (.ty _) (fun _ _ => tyx_str f) kit_ss) (fun _ => ev_is (ev_andV (a := true) (b := false) (ev_din (ev_var rfl) (ev_var rfl) (e04 _ _ hd) (by rw [vf]; rfl)) (fun _ => ev_is (ev_andV (a := true) (b := false) (ev_isi (ev_var rfl) ev_c (.ty _) (fun _ e => tyx_tup (ex_t (e04.trans e) h2)) kit_tt) (fun _ => ev_is (ev_op (ev_lenT (ev_var rfl) (ex_t e04 h2)) (ev_dget (ev_var rfl) (ev_var rfl) (e04 _ _ hd) vf) (rv_eq rfl)) ?_)) rfl)) rfl)) rfl) fun H5 e5 => q _ H5 (e04.trans e5) rfl
          show V.bl (decide (V.int (us.length : Int) = V.int (n : Int))) = .bl false
          rw [decide_eq_false (fun z => no (by
            injection z with z
            have : us.length = n := by omega
            rw [this]
            exact hpr))]
        · exact s_ret (v := .bl false) (ev_is (ev_andV (a := true) (b := false) (ev_isi (ev_var rfl) ev_c (.ty _) (fun _ _ => tyx_str f) kit_ss) (fun _ => ev_is (ev_andV (a := false) (b := false) (ev_din (ev_var rfl) (ev_var rfl) (e04 _ _ hd) (by rw [out f mem]; rfl)) (fun z => by cases z)) rfl)) rfl) fun H5 e5 => q _ H5 (e04.trans e5) rfl
end
end K02
end
section
namespace K02
open PySem PySem.Spec PyProof.Rows L2 Evl RZ Dw M20
mutual
/-- how many parts are met -/
def Bt.sz : Bt → Nat
  | .var _ => 1
  | .deed _ ts => 1 + bszs ts
  | .odd _ => 1
def bszs : List Bt → Nat
  | [] => 0
  | t :: ts => t.sz + bszs ts
end
mutual
/-- what is met, with its paths -/
def Bt.met : Bt → List Nat → List (List Nat × Bt)
  | .var x, p => [(p, .var x)]
  | .deed f ts, p => (p, .deed f ts) :: mets ts p 0
  | .odd d, p => [(p, .odd d)]
def mets : List Bt → List Nat → Nat → List (List Nat × Bt)
  | [], _, _ => []
  | t :: ts, p, k => t.met (p ++ [k]) ++ mets ts p (k + 1)
end
mutual
theorem met_len : ∀ (t : Bt) (p : List Nat), (t.met p).length = t.sz
  | .var x, p => by rw [Bt.met, Bt.sz]; rfl
  | .deed f ts, p => by rw [Bt.met, Bt.sz, List.length_cons, mets_len ts p 0, Nat.add_comm]
  | .odd d, p => by rw [Bt.met, Bt.sz]; rfl
theorem mets_len : ∀ (ts : List Bt) (p : List Nat) (k : Nat), (mets ts p k).length = bszs ts
  | [], p, k => by rw [mets, bszs]; rfl
  | t :: ts, p, k => by rw [mets, bszs, List.length_append, met_len t, mets_len ts]
end
theorem len_bszs : ∀ ts : List Bt, ts.length ≤ bszs ts
  | [] => Nat.zero_le _
  | t :: ts => by
    have a := len_bszs ts
    have b : 1 ≤ t.sz := by
      cases t <;> rw [Bt.sz] <;> omega
    rw [List.length_cons, bszs]
    omega
theorem bsz_le : ∀ {ts : List Bt} {k : Nat} {u : Bt}, ts[k]? = some u → u.sz ≤ bszs ts
  | [], k, u, h => by
    rw [List.getElem?_nil] at h
    cases h
  | t :: ts, 0, u, h => by
    cases Option.some.inj h
    rw [bszs]
    omega
  | t :: ts, k + 1, u, h => by
    have := bsz_le (ts := ts) (k := k) (u := u) h
    rw [bszs]
    omega
/-- a row of things at their paths -/
def flatB (S : List (List Nat × Bt)) : List (List Nat × Bt) := S.flatMap fun q => q.2.met q.1
def kidsB (p : List Nat) : Nat → List Bt → List (List Nat × Bt)
  | _, [] => []
  | k, t :: ts => (p ++ [k], t) :: kidsB p (k + 1) ts
theorem kidsB_flat (p : List Nat) : ∀ (k : Nat) (ts : List Bt), flatB (kidsB p k ts) = mets ts p k
  | _, [] => by
    rw [kidsB, mets]
    rfl
  | k, t :: ts => by
    rw [kidsB, mets, ← kidsB_flat p (k + 1) ts]
    rfl
theorem kidsB_len (p : List Nat) : ∀ (k : Nat) (ts : List Bt), (kidsB p k ts).length = ts.length
  | _, [] => by rw [kidsB]; rfl
  | k, t :: ts => by rw [kidsB, List.length_cons, kidsB_len p (k + 1) ts, List.length_cons]
theorem kidsB_get (p : List Nat) : ∀ (k : Nat) (ts : List Bt) (i : Nat) (h : i < ts.length), (kidsB p k ts)[i]? = some (p ++ [k + i], ts[i])
  | _, [], i, h => absurd h (Nat.not_lt_zero _)
  | k, t :: ts, 0, h => by
    rw [kidsB]
    rfl
  | k, t :: ts, i + 1, h => by
    rw [kidsB]
    have h' : i < ts.length := Nat.lt_of_succ_lt_succ h
    show (kidsB p (k + 1) ts)[i]? = some (p ++ [k + (i + 1)], ts[i])
    rw [kidsB_get p (k + 1) ts i h', show k + (i + 1) = k + 1 + i by omega]
theorem flatB_app (a b : List (List Nat × Bt)) : flatB (a ++ b) = flatB a ++ flatB b := List.flatMap_append
/-- how far a stack has to go -/
def stS (S : List (List Nat × Bt)) : Nat := (flatB S).length
theorem stS_app (a b : List (List Nat × Bt)) : stS (a ++ b) = stS a + stS b := by
  rw [stS, flatB_app, List.length_append]
  rfl
theorem stS_one (p : List Nat) (t : Bt) : stS [(p, t)] = t.sz := by
  rw [stS]
  show (t.met p ++ []).length = t.sz
  rw [List.append_nil, met_len]
theorem stS_rev : ∀ S : List (List Nat × Bt), stS S.reverse = stS S
  | [] => rfl
  | q :: S => by
    rw [List.reverse_cons, stS_app, stS_rev S, show q :: S = [q] ++ S from rfl, stS_app]
    omega
theorem len_stS : ∀ S : List (List Nat × Bt), S.length ≤ stS S
  | [] => Nat.zero_le _
  | (p, t) :: S => by
    rw [show (p, t) :: S = [(p, t)] ++ S from rfl, stS_app, stS_one, List.length_append]
    have a := len_stS S
    have b : 1 ≤ t.sz := by
      cases t <;> rw [Bt.sz] <;> omega
    show 1 + S.length ≤ _
    omega
theorem BtsV.put {K : PySem.W.Frag} {H : Hp} {sg : List (Str × Nat)} : ∀ {ts : List Bt} {us : List V} {k : Nat} (h : k < ts.length), BtsV K H sg ts us → ∃ v, us[k]? = some v ∧ BtV K H sg ts[k] v
  | [], us, k, h, _ => absurd h (Nat.not_lt_zero _)
  | t :: ts, us, 0, h, r => by
    rw [BtsV] at r
    obtain ⟨v, ws, rfl, a, _⟩ := r
    exact ⟨v, rfl, a⟩
  | t :: ts, us, k + 1, h, r => by
    rw [BtsV] at r
    obtain ⟨v, ws, rfl, _, b⟩ := r
    exact BtsV.put (k := k) (Nat.lt_of_succ_lt_succ h) b
theorem boks_get {sg : List (Str × Nat)} : ∀ {ts : List Bt} {k : Nat} (h : k < ts.length), boks sg ts → (ts[k]).ok sg
  | [], k, h, _ => absurd h (Nat.not_lt_zero _)
  | t :: ts, 0, h, o => by
    rw [boks] at o
    exact o.1
  | t :: ts, k + 1, h, o => by
    rw [boks] at o
    exact boks_get (k := k) (Nat.lt_of_succ_lt_succ h) o.2
/-- what is wrong in it, as data -/
def wrongL (l : List (List Nat × Bt)) : PyData := match l.find? (fun e => !e.2.fits) with
  | some e => .tuple [.str "term", .tuple (natsD e.1)]
  | none => if 60 < l.length then .tuple [.str "parts"] else .none
theorem wrongL_odd {a b : List (List Nat × Bt)} {e : List Nat × Bt} (h : ∀ x ∈ a, x.2.fits = true) (he : e.2.fits = false) : wrongL (a ++ e :: b) = .tuple [.str "term", .tuple (natsD e.1)] := by
  have f : (a ++ e :: b).find? (fun e => !e.2.fits) = some e := by
    rw [List.find?_append, List.find?_eq_none.mpr (fun x hx => by rw [h x hx]; decide)]
    rw [Option.none_or, List.find?_cons_of_pos (by rw [he]; rfl)]
  rw [wrongL, f]
theorem wrongL_fine {a : List (List Nat × Bt)} (h : ∀ x ∈ a, x.2.fits = true) : wrongL a = if 60 < a.length then .tuple [.str "parts"] else .none := by
  rw [wrongL, List.find?_eq_none.mpr (fun x hx => by rw [h x hx]; decide)]
section
variable {P : Program} {w : World} {K : PySem.W.Frag} {mg : Str → Option Value} {base : Heap} {σ : L2.St} {H H0 H' : Hp} {va : Addr} {sg : List (Str × Nat)}
/-- something on the stack: the thing as it stood at H0 -/
def SbV (K : PySem.W.Frag) (H0 H : Hp) (sg : List (Str × Nat)) (n : Nat) (u : V) (q : List Nat × Bt) : Prop := ∃ (a pa : Addr) (v : V), u = .ref a ∧ SqT K H a [.ref pa, v] ∧ SqT K H pa (q.1.map vi) ∧ q.1.length + q.2.sz ≤ n ∧ BtV K H0 sg q.2 v ∧ q.2.ok sg
theorem SbV.et {n : Nat} {u : V} {q : List Nat × Bt} (e : ET K H H') (h : SbV K H0 H sg n u q) : SbV K H0 H' sg n u q := let ⟨a, pa, v, z, s, p, l, tv⟩ := h; ⟨a, pa, v, z, e _ _ s, e _ _ p, l, tv⟩
def sp_wrong_any (K : PySem.W.Frag) : Sp := spX (fun (p : List (Str × Nat) × Bt) vs H => (∃ d v, vs = [.ref d, v] ∧ PlcX H d p.1 ∧ BtV K H p.1 p.2 v) ∧ p.2.ok p.1 ∧ (p.1.map (·.1)).Nodup ∧ p.2.sz ≤ 100) (fun p v H => Dp K H v (wrongL (p.2.met [])))
theorem c_wrong_any (T : Txt mg) (D : Df K mg "wrong_in_term" s_wrong_in_term ["places", "thing"]) (c_form_any : Cl P w K mg base 1 "has_term_form" (sp_form_any K)) : Cl P w K mg base 2 "wrong_in_term" (sp_wrong_any K) := by
  refine cl_of (k := 1) D sc_wrong_in_term (fun vs H Q E h => ?_) (fun f cdv A outer s H vs Q E hr h => ?_)
  · obtain ⟨p, ⟨⟨u, v, rfl, _⟩, _⟩, _⟩ := h
    rfl
  · obtain ⟨⟨sg, t⟩, ⟨⟨d, v, rfl, plc, tv⟩, ok, nd, small⟩, q⟩ := h
    have c_has_term_form := c_form_any
    refine ⟨_, (pss_cons (ps_set (i := 2) sc_wrong_in_term.nd rfl (.inl rfl) pe_int)
      (pss_cons (ps_set (i := 3) sc_wrong_in_term.nd rfl (.inl rfl) (pe_lst (pa_cons (pe_tup (pa_cons (pe_tup pa_nil) (pa_cons (pv 1) pa_nil))) pa_nil)))
      (pss_cons (ps_while PassesOwn.never (pt_truth (pv 3) (by intro _; rfl))
        (pss_cons (ps_asg (pe_bm0 PySem.F.plainAttrs_list PySem.F.slot_list_pop PySem.F.type_list_pop mt_pop (pv 3)) (pg_tup (by rfl) (pgs_cons (pg_name (i := 4) sc_wrong_in_term.nd rfl (.inl rfl)) (pgs_cons (pg_name (i := 5) sc_wrong_in_term.nd rfl (.inl rfl)) pgs_nil))))
        (pss_cons (ps_if (pt_not (pt_val (pe_cl c_has_term_form hr (by first | decide | omega) (by rfl) (pa_cons (pv 0) (pa_cons (pv 5) pa_nil)))))
          (pss_one (ps_ret (pe_tup (pa_cons pe_str (pa_cons (pv 4) pa_nil)))))
          pss_nil)
        (pss_cons (ps_aug (i := 2) sc_wrong_in_term.nd rfl (.inl rfl) pe_int ip_add)
        (pss_one (ps_if (pt_cmpR op_eq (pe_ix ix_tup (pv 5) pe_int (fun _ _ => rfl)) pe_str (nomark _))
          (pss_one (ps_for PassesOwn.never (by rfl) (pi_revR (by rfl) T.z_reversed (prg_1 (by rfl) T.z_range (pe_callB call_len_seq (by rfl) T.z_len PySem.boot_len (pa_cons (pe_ix ix_tup (pv 5) pe_int (fun _ _ => rfl)) pa_nil)))) (pg_name (i := 6) sc_wrong_in_term.nd rfl (.inl rfl))
            (pss_one (ps_expr (pe_bm PySem.F.plainAttrs_list PySem.F.slot_list_append PySem.F.type_list_append mt_append (pv 3) (pa_cons (pe_tup (pa_cons (pe_op op_catA (pv 4) (pe_tup (pa_cons (pv 6) pa_nil))) (pa_cons (pe_ix ix_tup (pe_ix ix_tup (pv 5) pe_int (fun _ _ => rfl)) (pv 6) (fun _ _ => rfl)) pa_nil))) pa_nil))))))
          pss_nil))))))
      (pss_one (ps_ret (pe_ifExp (pt_cmpR op_gt (pv 2) (pe_gi (by rfl) T.c_MOST_PARTS) (nomark _)) (pe_tup (pa_cons pe_str pa_nil)) pe_non)))))), ?_⟩
    replace plc : PlcX H d sg := plc
    replace tv : BtV K H sg t v := tv
    replace ok : t.ok sg := ok
    replace small : t.sz ≤ 100 := small
    replace nd : (sg.map (·.1)).Nodup := nd
    replace q : ∀ r H', Ex H H' → Dp K H' r (wrongL (t.met [])) → Q r H' := q
    refine q_asg (v := vi 0) ev_c fun H4 e4 => ?_
    refine do_set (do_lst (do_cons (do_tup (do_cons (do_tup (do_nil ⟨Nat.zero_le _, fun p1 n1 => do_cons (do_ev (ev_var rfl) fun H5 e5 => do_nil ⟨by show 2 ≤ sizeLine; decide, fun p2 n2 => do_nil ⟨by show 1 ≤ sizeLine; decide, fun td ntd => ?_⟩⟩)⟩))))))
    have e45 : Ex H4 H5 := (Ex.new n1).trans e5
    have x6 : Ex H (upd H5 p2 (.tup [.ref p1, v])) := (e4.trans e45).trans (Ex.new n2)
    have s2 : SqT K (upd H5 p2 (.tup [.ref p1, v])) p2 [.ref p1, v] := st_of upd_same
    have s1 : SqT K (upd H5 p2 (.tup [.ref p1, v])) p1 [] := st_of (Ex.new n2 _ _ (e5 _ _ upd_same))
    generalize upd H5 p2 (.tup [.ref p1, v]) = H6 at *
    have nt3 : H td = none := fresh_back x6 ntd
    have et7 : ET K H6 (upd H6 td (.lst [.ref p2])) := Dw.Ex.et (Ex.new ntd)
    show tSeq _ _ _ [some (.ref d), some v, some (vi 0), some (.ref td), none, none, none] (upd H6 td (.lst [.ref p2]))
    refine q_while (fun k σ H' => Ex H H' ∧ ∃ (S : List (List Nat × Bt)) (us : List V) (dn : List (List Nat × Bt)) (y5 y6 y7 : Option V), k = stS S ∧ H' td = some (.lst us) ∧ Paired (SbV K H H' sg t.sz) us S ∧ (∀ x ∈ dn, x.2.fits = true) ∧ dn ++ flatB S.reverse = t.met [] ∧ σ = [some (.ref d), some v, some (vi dn.length), some (.ref td), y5, y6, y7]) (stS [([], t)])
      ⟨x6.trans (Ex.new ntd), [([], t)], [.ref p2], [], none, none, none, rfl, upd_same, .cons (SbV.et et7 ⟨p2, p1, v, rfl, s2, s1, by show 0 + t.sz ≤ t.sz; omega, tv, ok⟩) .nil, fun x hx => (by cases hx), by show [] ++ (t.met [] ++ []) = t.met []; rw [List.append_nil, List.nil_append], rfl⟩ (fun k σ H7 hW => ?_)
    obtain ⟨e7, S, us, dn, y5, y6, y7, ek, hus, prs, fine, tot, hσ⟩ := hW
    subst hσ
    subst ek
    have lu := paired_len prs
    have ls := len_stS S
    have lt := congrArg List.length tot
    rw [List.length_append, met_len] at lt
    have lt2 : (flatB S.reverse).length = stS S := stS_rev S
    refine ⟨_, et_truL (K := K) (ev_var rfl) (sq_of hus), fun hb H8 e8 => ?_, fun hb H8 e8 => ?_⟩
    · have ne : S ≠ [] := fun z => by
        subst z
        cases prs
        cases hb
      obtain ⟨ws, u', b, q', rfl, rfl, pb, pt⟩ := paired_last prs ne
      refine ⟨fun σ' H' => ∃ k', k' < stS (b ++ [q']) ∧ Ex H H' ∧ ∃ (S : List (List Nat × Bt)) (us : List V) (dn : List (List Nat × Bt)) (y5 y6 y7 : Option V), k' = stS S ∧ H' td = some (.lst us) ∧ Paired (SbV K H H' sg t.sz) us S ∧ (∀ x ∈ dn, x.2.fits = true) ∧ dn ++ flatB S.reverse = t.met [] ∧ σ' = [some (.ref d), some v, some (vi dn.length), some (.ref td), y5, y6, y7], fun σ2 H5 ⟨k', lt, r⟩ => ⟨k', lt, r⟩, ?_⟩
      refine do_setG (do_pop (e8 _ _ hus) (ev_var rfl) fun H9 e9 => ?_)
      have e79 := e8.trans e9
      have et10 : ET K H7 (upd H9 td (.lst ws)) := ET.trans (Dw.Ex.et e79) (ET.refl.upd (e79 _ _ hus))
      have x10 : Ex H (upd H9 td (.lst ws)) := (e7.trans e79).mut nt3
      have td10 : (upd H9 td (.lst ws)) td = some (.lst ws) := upd_same
      have pb10 := paired_imp (fun _ _ z => SbV.et et10 z) pb
      have pt10 := SbV.et et10 pt
      generalize upd H9 td (.lst ws) = H10 at *
      obtain ⟨p, t'⟩ := q'
      obtain ⟨aa, pa, vv, rfl, sa, sp, lx, tvv, okt⟩ := pt10
      replace sp : SqT K H10 pa (p.map vi) := sp
      replace lx : p.length + t'.sz ≤ t.sz := lx
      replace tvv : BtV K H sg t' vv := tvv
      replace okt : t'.ok sg := okt
      refine ⟨aa, _, rfl, sa, rfl, _, _, rfl, _, _, rfl, rfl, ?_⟩
      show tSeq _ _ _ [some (.ref d), some v, some (vi dn.length), some (.ref td), some (.ref pa), some vv, y7] H10
      rw [List.reverse_append, List.reverse_singleton, flatB_app] at tot
      have one1 : flatB [(p, t')] = t'.met p := by
        show t'.met p ++ [] = _
        rw [List.append_nil]
      rw [one1] at tot
      have meas : stS (b ++ [(p, t')]) = stS b + t'.sz := by rw [stS_app, stS_one]
      have lb := len_stS b
      have lw := paired_len pb10
      have test : EvT (tNot (tB (tCall (sp_form_any K) [] E0 (tCons (tVar 0) (tCons (tVar 5) tNil))))) [some (.ref d), some v, some (vi dn.length), some (.ref td), some (.ref pa), some vv, y7] H10 (!t'.fits) := et_not (et_val (ev_callV (v := .bl t'.fits) (sg, t') (ea_cons (ev_var rfl) (ea_cons (ev_var rfl) ea_nil)) (fun H11 e11 => ⟨⟨_, _, rfl, plc.ex (x10.trans e11), tvv.ex (x10.trans e11)⟩, okt, nd⟩) (fun _ _ p => p)))
      by_cases ft : t'.fits = true
      · refine q_when (b := false) (et_is test (by rw [ft]; rfl)) (fun hb => by cases hb) (fun _ H11 e11 => ?_)
        refine q_aug (a := (dn.length : Int)) (b := 1) rfl ev_c fun H12 e12 => ?_
        have en : V.int ((dn.length : Int) + 1) = vi (dn.length + 1) := by
          show _ = V.int (((dn.length + 1 : Nat)) : Int)
          rw [Int.natCast_add]
          rfl
        show tIfS _ _ _ _ [some (.ref d), some v, some (V.int ((dn.length : Int) + 1)), some (.ref td), some (.ref pa), some vv, y7] H12
        rw [en]
        have e1012 := e11.trans e12
        have x12 : Ex H H12 := x10.trans e1012
        have td12 : H12 td = some (.lst ws) := e1012 _ _ td10
        have pb12 := paired_imp (fun _ _ z => SbV.et (Dw.Ex.et e1012) z) pb10
        have sp12 := ex_t e1012 sp
        have fine2 : ∀ x ∈ dn ++ [(p, t')], x.2.fits = true := fun x hx => by
          rcases List.mem_append.mp hx with z | z
          · exact fine x z
          · rw [List.mem_singleton.mp z]
            exact ft
        have ld : (dn ++ [(p, t')]).length = dn.length + 1 := by rw [List.length_append]; rfl
        cases t' with
        | odd dd => cases ft
        | var x =>
          have tv12 := tvv.ex x12
          rw [BtV] at tv12
          obtain ⟨c, rfl, hc⟩ := tv12
          refine s_when (b := false) (et_is (et_test (ev_op (ev_op (ev_var rfl) ev_c (rv_ixT (K := K) hc (atI_vi (k := 0) rfl))) ev_c (rv_eq rfl))) (by decide)) (fun hb => by cases hb) (fun _ H13 e13 => ?_)
          refine ⟨stS b, by rw [meas, Bt.sz]; omega, x12.trans e13, b, ws, dn ++ [(p, .var x)], _, _, _, rfl, e13 _ _ td12, paired_imp (fun _ _ z => SbV.et (Dw.Ex.et e13) z) pb12, fine2, ?_, by rw [ld]⟩
          rw [← tot, Bt.met, List.append_assoc]
        | deed g ts =>
          rw [BtV] at tvv
          rw [Bt.ok] at okt
          obtain ⟨c, cc, vs, rfl, hcH, hccH, tvs0⟩ := tvv
          have hc := ex_t x12 hcH
          have hcc := ex_t x12 hccH
          have lvs := tvs0.len
          have lts := len_bszs ts
          rw [Bt.sz] at lx meas
          obtain ⟨kq, hkq⟩ : ∃ kq, kq = kidsB p 0 ts := ⟨_, rfl⟩
          have lkq : kq.length = ts.length := by rw [hkq, kidsB_len]
          refine s_when (b := true) (et_is (et_test (ev_op (ev_op (ev_var rfl) ev_c (rv_ixT (K := K) hc (atI_vi (k := 0) rfl))) ev_c (rv_eq rfl))) (by decide)) (fun _ H13 e13 => ?_) (fun hb => by cases hb)
          have hc13 := ex_t e13 hc
          have hcc13 := ex_t e13 hcc
          refine s_forRev (n := ts.length) (ev_is (ev_lenT (K := K) (ev_op (ev_var rfl) ev_c (rv_ixT (K := K) hc13 (atI_vi (k := 2) rfl))) hcc13) (by rw [lvs])) (by omega) (fun i σ' H' => Ex H H' ∧ ET K H13 H' ∧ ∃ (us : List V) (y7 : Option V), H' td = some (.lst us) ∧ Paired (SbV K H H' sg t.sz) us (b ++ kq.reverse.take i) ∧ σ' = [some (.ref d), some v, some (vi (dn.length + 1)), some (.ref td), some (.ref pa), some (.ref c), y7])
            (fun H14 e14 => ⟨(x12.trans e13).trans e14, Dw.Ex.et e14, ws, _, (e13.trans e14) _ _ td12, by rw [List.take_zero, List.append_nil]; exact paired_imp (fun _ _ z => SbV.et (Dw.Ex.et (e13.trans e14)) z) pb12, rfl⟩) (fun i σ' H14 hi hP => ?_) (fun σ' H14 hP => ?_)
          · obtain ⟨x14, et14, us', y7', td14, p14, hσ⟩ := hP
            subst hσ
            have ln := paired_len p14
            have kl : ts.length - 1 - i < ts.length := by omega
            have e5 : List.length (kq.reverse.take i) ≤ ts.length := by rw [List.length_take, List.length_reverse]; omega
            rw [List.length_append] at ln
            have hc14 := et14 _ _ hc13
            have hcc14 := et14 _ _ hcc13
            have sp14 := et14 _ _ (ex_t e13 sp12)
            obtain ⟨cv, hcv, tcv⟩ := tvs0.put kl
            have szc : (ts[ts.length - 1 - i]).sz ≤ bszs ts := bsz_le (List.getElem?_eq_getElem kl)
            show tDrop _ _ [some (.ref d), some v, some (vi (dn.length + 1)), some (.ref td), some (.ref pa), some (.ref c), some (vi (ts.length - 1 - i))] H14
            have pv : Ev (tVar 4) [some (.ref d), some v, some (vi (dn.length + 1)), some (.ref td), some (.ref pa), some (.ref c), some (vi (ts.length - 1 - i))] H14 (.ref pa) := ev_var rfl
            have kv : Ev (tVar 6) [some (.ref d), some v, some (vi (dn.length + 1)), some (.ref td), some (.ref pa), some (.ref c), some (vi (ts.length - 1 - i))] H14 (vi (ts.length - 1 - i)) := ev_var rfl
            have cat := ep_cat (K := K) (xs := p.map vi) (ys := [vi (ts.length - 1 - i)]) (ep_ev (P := fun v H' => TupV K H' v (p.map vi)) pv (fun H' e' => ⟨pa, rfl, ex_t e' sp14⟩)) (ep_tup1 (K := K) kv) (by rw [List.length_map]; show p.length + 1 ≤ 100000; omega)
            refine do_app td14 (ev_var rfl) fun H15 e15 => do_tup (do_cons (cat H15 e15 _ fun pv2 H16 e16 hpv => do_cons (do_ev (ev_op (ev_op (ev_var rfl) ev_c (rv_ixT (K := K) (ex_t (e15.trans e16) hc14) (atI_vi (k := 2) rfl))) (ev_var rfl) (rv_ixT (K := K) (ex_t (e15.trans e16) hcc14) (atI_vi (k := ts.length - 1 - i) hcv))) fun H20 e20 => do_nil ⟨by show 2 ≤ sizeLine; decide, fun r nr => ?_⟩)))
            obtain ⟨pa2, rfl, spa2⟩ := hpv
            have x21 : Ex H14 (upd H20 r (.tup [.ref pa2, cv])) := ((e15.trans e16).trans e20).trans (Ex.new nr)
            have td21 : (upd H20 r (.tup [.ref pa2, cv])) td = some (.lst us') := x21 _ _ td14
            have r21 : (upd H20 r (.tup [.ref pa2, cv])) r = some (.tup [.ref pa2, cv]) := upd_same
            have sp21 := ex_t (e20.trans (Ex.new nr (o := .tup [.ref pa2, cv]))) spa2
            refine ⟨td, us', .ref r, rfl, rfl, td21, sz_lt (by omega), (x14.trans x21).mut nt3, ET.trans et14 (ET.trans (Dw.Ex.et x21) (ET.refl.upd td21)), us' ++ [.ref r], _, upd_same, ?_, rfl⟩
            have et22 : ET K H14 (upd (upd H20 r (.tup [.ref pa2, cv])) td (.lst (us' ++ [.ref r]))) := ET.trans (Dw.Ex.et x21) (ET.refl.upd td21)
            have et23 : ET K (upd H20 r (.tup [.ref pa2, cv])) (upd (upd H20 r (.tup [.ref pa2, cv])) td (.lst (us' ++ [.ref r]))) := ET.refl.upd td21
            have hr2 : kq.reverse[i]? = some (p ++ [ts.length - 1 - i], ts[ts.length - 1 - i]) := by
              rw [List.getElem?_reverse (by omega), lkq, hkq, kidsB_get p 0 ts _ kl, Nat.zero_add]
            rw [List.take_add_one, hr2, ← List.append_assoc]
            refine paired_snoc (R := SbV K H (upd (upd H20 r (.tup [.ref pa2, cv])) td (.lst (us' ++ [.ref r]))) sg t.sz) (y := (p ++ [ts.length - 1 - i], ts[ts.length - 1 - i])) ⟨r, pa2, cv, rfl, et23 _ _ (st_of r21), ?_, ?_, tcv, boks_get kl okt.2⟩ (paired_imp (fun _ _ z => SbV.et et22 z) p14)
            · show SqT K _ pa2 ((p ++ [ts.length - 1 - i]).map vi)
              rw [List.map_append]
              exact et23 _ _ sp21
            · show (p ++ [ts.length - 1 - i]).length + (ts[ts.length - 1 - i]).sz ≤ t.sz
              rw [List.length_append, List.length_singleton]
              omega
          · obtain ⟨x14, et14, us', y7', td14, p14, hσ⟩ := hP
            subst hσ
            have full : kq.reverse.take ts.length = kq.reverse := List.take_of_length_le (by rw [List.length_reverse, lkq]; exact Nat.le_refl _)
            rw [full] at p14
            have mk : stS kq = bszs ts := by rw [stS, hkq, kidsB_flat, mets_len]
            refine ⟨stS (b ++ kq.reverse), by rw [meas, stS_app, stS_rev, mk]; omega, x14, b ++ kq.reverse, us', dn ++ [(p, .deed g ts)], _, _, _, rfl, td14, p14, fine2, ?_, by rw [ld]⟩
            rw [← tot, List.reverse_append, List.reverse_reverse, flatB_app, hkq, kidsB_flat, Bt.met, List.append_assoc]
            rfl
      · have ff : t'.fits = false := by
          cases h : t'.fits with
          | true => exact absurd h ft
          | false => rfl
        have metp : t'.met p = [(p, t')] := by
          cases t' with
          | var x => cases ff
          | deed g ts => cases ff
          | odd dd => rw [Bt.met]
        rw [metp] at tot
        have res : wrongL (t.met []) = .tuple [.str "term", .tuple (natsD p)] := by
          rw [← tot, List.singleton_append]
          exact wrongL_odd (e := (p, t')) fine ff
        refine q_when (b := true) (et_is test (by rw [ff]; rfl)) (fun _ H11 e11 => ?_) (fun hb => by cases hb)
        refine do_ret (do_tup (do_cons (do_ev ev_c fun H12 e12 => do_cons (do_ev (ev_var rfl) fun H13 e13 => do_nil ⟨by show 2 ≤ sizeLine; decide, fun r nr => ?_⟩))))
        refine q _ _ (x10.trans ((e11.trans (e12.trans e13)).trans (Ex.new nr))) ?_
        rw [res]
        exact .tup (st_of upd_same) (.cons (.str _) (.cons (.tup (ex_t ((e11.trans (e12.trans e13)).trans (Ex.new nr)) sp) (dps_vi p)) .nil))
    · have no : S = [] := by
        cases us with
        | nil => exact List.length_eq_zero_iff.mp lu.symm
        | cons _ _ => cases hb
      subst no
      have all : dn = t.met [] := by
        rw [← tot]
        show dn = dn ++ []
        rw [List.append_nil]
      have res := wrongL_fine fine
      rw [all] at res
      have ldn : dn.length = (t.met []).length := by rw [all]
      by_cases big : 60 < (t.met []).length
      · rw [if_pos big] at res
        exact do_ret (do_if (b := true) (et_is (et_test (ev_op (ev_var rfl) ev_c rv_I0)) (decide_eq_true (by show ((dn.length : Int) > 60); omega))) (fun _ H9 e9 => do_tup (do_cons (do_ev ev_c fun H10 e10 => do_nil ⟨by show 1 ≤ sizeLine; decide, fun r nr => q _ _ ((e7.trans (e8.trans (e9.trans e10))).trans (Ex.new nr)) (by
          rw [res]
          exact .tup (st_of upd_same) (.cons (.str _) .nil))⟩))) (fun z => by cases z))
      · rw [if_neg big] at res
        exact do_ret (do_if (b := false) (et_is (et_test (ev_op (ev_var rfl) ev_c rv_I0)) (decide_eq_false (by show ¬ ((dn.length : Int) > 60); omega))) (fun z => by cases z) (fun _ H9 e9 => do_ev ev_c fun H10 e10 => q _ _ (e7.trans (e8.trans (e9.trans e10))) (by
          rw [res]
          exact .non)))
end
end K02
end
section
namespace K02
open PySem PySem.Spec PyProof.Rows L2 Evl RZ Dw M20
theorem merge_new : ∀ {kvs acc : List (Key × V)}, ((acc ++ kvs).map (·.1)).Nodup → mergeK acc kvs = acc ++ kvs
  | [], acc, _ => by
    rw [List.append_nil]
    rfl
  | p :: r, acc, nd => by
    show mergeK (putK acc p.1 p.2) r = acc ++ p :: r
    have no : valV acc p.1 = none := val_none fun z => by
      rw [List.map_append, List.nodup_append] at nd
      exact nd.2.2 _ z _ (List.mem_map.mpr ⟨p, List.mem_cons_self .., rfl⟩) rfl
    rw [putK_new _ no, merge_new (by rw [List.append_assoc]; exact nd), List.append_assoc]
    rfl
theorem kvs_keys {sg : List (Str × Nat)} {x : Str} (h : (Sum.inr x : Key) ∈ (kvsOf sg).map (·.1)) : x ∈ sg.map (·.1) := by
  obtain ⟨kv, hk, e⟩ := List.mem_map.mp h
  obtain ⟨p, hp, e2⟩ := List.mem_map.mp hk
  rw [← e2] at e
  have e3 : (Sum.inr p.1 : Key) = Sum.inr x := e
  injection e3 with e3
  rw [← e3]
  exact List.mem_map_of_mem hp
theorem kvs_nodup : ∀ {sg : List (Str × Nat)}, (sg.map (·.1)).Nodup → ((kvsOf sg).map (·.1)).Nodup
  | [], _ => List.Pairwise.nil
  | p :: sg, h => by
    rw [List.map_cons, List.nodup_cons] at h
    show (Sum.inr p.1 :: (kvsOf sg).map (·.1)).Nodup
    rw [List.nodup_cons]
    exact ⟨fun z => h.1 (kvs_keys z), kvs_nodup h.2⟩
section
variable {P : Program} {w : World} {K : PySem.W.Frag} {mg : Str → Option Value} {base : Heap} {σ : L2.St} {H : Hp} {P0 B0 T0 G0 : Addr} {va : Addr}
def BPre (K : PySem.W.Frag) (p : List (Str × Nat) × Bt) (vs : List V) (H : Hp) : Prop := (∃ u v, vs = [u, v] ∧ FSig K H u p.1 ∧ BtV K H p.1 p.2 v) ∧ SigOk p.1 ∧ p.2.ok p.1 ∧ p.2.sz ≤ 100
def sp_term_any (K : PySem.W.Frag) : Sp := spX (BPre K) (fun p v H => Dp K H v (wrongL (p.2.met [])))
theorem c_term_any (T : Txt mg) (D : Df K mg "term_wrong" s_term_wrong ["signature", "thing"]) (c_need_signature : Cl P w K mg base 5 "need_signature" (sp_need_signature K)) (c_wrong_any : Cl P w K mg base 2 "wrong_in_term" (sp_wrong_any K)) : Cl P w K mg base 6 "term_wrong" (sp_term_any K) := by
  refine cl_of (k := 5) D sc_term_wrong (fun vs H Q E h => ?_) (fun f cdv A outer s H vs Q E hr h => ?_)
  · obtain ⟨p, ⟨⟨u, v, rfl, _⟩, _⟩, _⟩ := h
    rfl
  · obtain ⟨⟨sg, t⟩, ⟨⟨u, v, rfl, hF, tv⟩, sok, ok, small⟩, q⟩ := h
    have c_wrong_in_term := c_wrong_any
    refine ⟨_, (pss_cons (ps_expr (pe_cl c_need_signature hr (by first | decide | omega) (by rfl) (pa_cons (pv 0) pa_nil)))
      (pss_one (ps_ret (pe_cl c_wrong_in_term hr (by first | decide | omega) (by rfl) (pa_cons (pe_callTy (call_dictT rfl) (by rfl) T.z_dict (by decide +kernel) (pa_cons (pv 0) pa_nil)) (pa_cons (pv 1) pa_nil)))))), ?_⟩
    replace hF : FSig K H u sg := hF
    replace tv : BtV K H sg t v := tv
    replace sok : SigOk sg := sok
    replace ok : t.ok sg := ok
    replace small : t.sz ≤ 100 := small
    refine q_drop (ev_callV (v := .non) sg (ea_cons (ev_var rfl) ea_nil) (fun H1 e1 => ⟨⟨_, rfl, (hF.ex e1).sig⟩, sok⟩) (fun _ _ p => p)) fun H1 e1 => ?_
    obtain ⟨a, o, ps, rfl, ha, od, pr⟩ := hF.ex e1
    refine do_ret (do_cons (do_cb (do_cons (do_ev (ev_var rfl) fun H2 e2 => ?_))))
    refine ⟨a, o, ps, kvsOf sg, rfl, e2 _ _ ha, od, paired_mapR (f := fun d : Str × Nat => ((Sum.inr d.1 : Key), vi d.2)) (fun _ _ z => ex_t e2 z) pr, fun d nd => ?_⟩
    have x3 : Ex H (upd H2 d (.dK (mergeK [] (kvsOf sg)))) := (e1.trans e2).trans (Ex.new nd)
    have nds : ((([] : List (Key × V)) ++ kvsOf sg).map (·.1)).Nodup := by
      rw [List.nil_append]
      exact kvs_nodup sok.nd
    have plc : PlcX (upd H2 d (.dK (mergeK [] (kvsOf sg)))) d sg := ⟨_, upd_same, fun p hp => val_merge sg [] p.1 p.2 sok.nd (.inl hp), fun x hx => by
      rw [merge_new nds, List.nil_append]
      exact val_none fun z => hx (kvs_keys z)⟩
    generalize upd H2 d (.dK (mergeK [] (kvsOf sg))) = H3 at *
    refine do_cons (do_ev (ev_var rfl) fun H4 e4 => do_nil ?_)
    exact ⟨(sg, t), ⟨⟨d, v, rfl, plc.ex e4, tv.ex (x3.trans e4)⟩, ok, sok.nd, small⟩, fun v H' e p => q v H' (x3.trans (e4.trans e)) p⟩
theorem wrong_ref {v : V} {l : List (List Nat × Bt)} (h : Dp K H v (wrongL l)) (ne : wrongL l ≠ .none) : ∃ a, v = .ref a := by
  have e : wrongL l = .none ∨ ∃ ds, wrongL l = .tuple ds := by
    unfold wrongL
    split
    · exact .inr ⟨_, rfl⟩
    · split
      · exact .inr ⟨_, rfl⟩
      · exact .inl rfl
  rcases e with e | ⟨ds, e⟩
  · exact absurd e ne
  · rw [e] at h
    cases h with
    | tup s _ => exact ⟨_, rfl⟩
/-- need_term of what is wrong -/
def WPre (K : PySem.W.Frag) (p : List (Str × Nat) × Bt) (vs : List V) (H : Hp) : Prop := BPre K p vs H ∧ wrongL (p.2.met []) ≠ .none
theorem c_need_termA (T : Txt mg) (D : Df K mg "need_term" s_need_term ["signature", "term"]) (er : Ers K mg P0 B0 T0 G0) (c_term_any : Cl P w K mg base 6 "term_wrong" (sp_term_any K)) : ClX P w K mg base 7 "need_term" (spE T0 (WPre K)) := by
  refine clx_of (k := 6) D sc_need_term (fun vs H Q E h => ?_) (fun f cdv A outer s H vs Q E hr h => ?_)
  · obtain ⟨t, ⟨⟨⟨v, th, rfl, _⟩, _⟩, _⟩, _⟩ := h
    rfl
  · obtain ⟨⟨sg, t⟩, ⟨⟨⟨u, v, rfl, hF, tv⟩, so, ok, small⟩, bad⟩, q⟩ := h
    have c_term_wrong := c_term_any
    refine ⟨_, (pss_one (ps_if (pt_cmpR op_notN (pe_cl c_term_wrong hr (by first | decide | omega) (by rfl) (pa_cons (pv 0) (pa_cons (pv 1) pa_nil))) pe_non (nomark _))
        (pss_one (ps_raise rfl (takes_of rfl rfl rfl rfl) (pmk_own PySem.F.excBase_ValueError er.t.q er.t.g er.t.k (raises_own er.t.c.hs er.t.t) (by rfl))))
        pss_nil)), ?_⟩
    exact s_when (b := true) (et_isNP ((ep_call (sg, t) (ea_cons (ev_var rfl) (ea_cons (ev_var rfl) ea_nil)) (fun H1 e1 => ⟨⟨_, _, rfl, hF.ex e1, tv.ex e1⟩, so, ok, small⟩)).imp fun r H1 _ hr1 => wrong_ref hr1 bad)) (fun _ H1 e1 => q H1 e1) (fun hb => by cases hb)
theorem c_variables_inX (T : Txt mg) (D : Df K mg "variables_in" s_variables_in ["signature", "term"]) (c_need_termA : ClX P w K mg base 7 "need_term" (spE T0 (WPre K))) : ClX P w K mg base 8 "variables_in" (spE T0 (WPre K)) := by
  refine clx_of (k := 7) D sc_variables_in (fun vs H Q E h => ?_) (fun f cdv A outer s H vs Q E hr h => ?_)
  · obtain ⟨t, ⟨⟨⟨v, th, rfl, _⟩, _⟩, _⟩, _⟩ := h
    rfl
  · obtain ⟨⟨sg, t⟩, ⟨⟨⟨u, v, rfl, hF, tv⟩, so, ok, small⟩, bad⟩, q⟩ := h
    refine ⟨_, (pss_cons (ps_expr (pe_clX c_need_termA (takes_of rfl rfl rfl rfl) hr (by first | decide | omega) (by rfl) (pa_cons (pv 0) (pa_cons (pv 1) pa_nil))))
      (pss_one (ps_never))), ?_⟩
    exact do_try (W0 := fun _ => fun cls d _ H => E cls d H) (ea_cons (ev_var rfl) (ea_cons (ev_var rfl) ea_nil) H (Ex.refl _) _ fun H2 e2 => ⟨(sg, t), ⟨⟨⟨_, _, rfl, hF.ex e2, tv.ex e2⟩, so, ok, small⟩, bad⟩, fun H3 e3 => q H3 (e2.trans e3)⟩)
theorem c_paths_inX (T : Txt mg) (D : Df K mg "paths_in" s_paths_in ["signature", "term"]) (c_need_termA : ClX P w K mg base 7 "need_term" (spE T0 (WPre K))) : ClX P w K mg base 8 "paths_in" (spE T0 (WPre K)) := by
  refine clx_of (k := 7) D sc_paths_in (fun vs H Q E h => ?_) (fun f cdv A outer s H vs Q E hr h => ?_)
  · obtain ⟨t, ⟨⟨⟨v, th, rfl, _⟩, _⟩, _⟩, _⟩ := h
    rfl
  · obtain ⟨⟨sg, t⟩, ⟨⟨⟨u, v, rfl, hF, tv⟩, so, ok, small⟩, bad⟩, q⟩ := h
    refine ⟨_, (pss_cons (ps_expr (pe_clX c_need_termA (takes_of rfl rfl rfl rfl) hr (by first | decide | omega) (by rfl) (pa_cons (pv 0) (pa_cons (pv 1) pa_nil))))
      (pss_one (ps_never))), ?_⟩
    exact do_try (W0 := fun _ => fun cls d _ H => E cls d H) (ea_cons (ev_var rfl) (ea_cons (ev_var rfl) ea_nil) H (Ex.refl _) _ fun H2 e2 => ⟨(sg, t), ⟨⟨⟨_, _, rfl, hF.ex e2, tv.ex e2⟩, so, ok, small⟩, bad⟩, fun H3 e3 => q H3 (e2.trans e3)⟩)
theorem c_letteredX (T : Txt mg) (D : Df K mg "lettered" s_lettered ["signature", "term"]) (c_need_termA : ClX P w K mg base 7 "need_term" (spE T0 (WPre K))) : ClX P w K mg base 8 "lettered" (spE T0 (WPre K)) := by
  refine clx_of (k := 7) D sc_lettered (fun vs H Q E h => ?_) (fun f cdv A outer s H vs Q E hr h => ?_)
  · obtain ⟨t, ⟨⟨⟨v, th, rfl, _⟩, _⟩, _⟩, _⟩ := h
    rfl
  · obtain ⟨⟨sg, t⟩, ⟨⟨⟨u, v, rfl, hF, tv⟩, so, ok, small⟩, bad⟩, q⟩ := h
    refine ⟨_, (pss_cons (ps_expr (pe_clX c_need_termA (takes_of rfl rfl rfl rfl) hr (by first | decide | omega) (by rfl) (pa_cons (pv 0) (pa_cons (pv 1) pa_nil))))
      (pss_one (ps_never))), ?_⟩
    exact do_try (W0 := fun _ => fun cls d _ H => E cls d H) (ea_cons (ev_var rfl) (ea_cons (ev_var rfl) ea_nil) H (Ex.refl _) _ fun H2 e2 => ⟨(sg, t), ⟨⟨⟨_, _, rfl, hF.ex e2, tv.ex e2⟩, so, ok, small⟩, bad⟩, fun H3 e3 => q H3 (e2.trans e3)⟩)
theorem c_term_textX (T : Txt mg) (D : Df K mg "term_text" s_term_text ["signature", "term"]) (c_need_termA : ClX P w K mg base 7 "need_term" (spE T0 (WPre K))) : ClX P w K mg base 8 "term_text" (spE T0 (WPre K)) := by
  refine clx_of (k := 7) D sc_term_text (fun vs H Q E h => ?_) (fun f cdv A outer s H vs Q E hr h => ?_)
  · obtain ⟨t, ⟨⟨⟨v, th, rfl, _⟩, _⟩, _⟩, _⟩ := h
    rfl
  · obtain ⟨⟨sg, t⟩, ⟨⟨⟨u, v, rfl, hF, tv⟩, so, ok, small⟩, bad⟩, q⟩ := h
    refine ⟨_, (pss_cons (ps_expr (pe_clX c_need_termA (takes_of rfl rfl rfl rfl) hr (by first | decide | omega) (by rfl) (pa_cons (pv 0) (pa_cons (pv 1) pa_nil))))
      (pss_one (ps_never))), ?_⟩
    exact do_try (W0 := fun _ => fun cls d _ H => E cls d H) (ea_cons (ev_var rfl) (ea_cons (ev_var rfl) ea_nil) H (Ex.refl _) _ fun H2 e2 => ⟨(sg, t), ⟨⟨⟨_, _, rfl, hF.ex e2, tv.ex e2⟩, so, ok, small⟩, bad⟩, fun H3 e3 => q H3 (e2.trans e3)⟩)
def WPre3 (K : PySem.W.Frag) (p : List (Str × Nat) × Bt) (vs : List V) (H : Hp) : Prop := (∃ u v x, vs = [u, v, x] ∧ FSig K H u p.1 ∧ BtV K H p.1 p.2 v) ∧ SigOk p.1 ∧ p.2.ok p.1 ∧ p.2.sz ≤ 100 ∧ wrongL (p.2.met []) ≠ .none
theorem c_put_inA (T : Txt mg) (D : Df K mg "put_in" s_put_in ["signature", "term", "putting"]) (c_need_termA : ClX P w K mg base 7 "need_term" (spE T0 (WPre K))) : ClX P w K mg base 8 "put_in" (spE T0 (WPre3 K)) := by
  refine clx_of (k := 7) D sc_put_in (fun vs H Q E h => ?_) (fun f cdv A outer s H vs Q E hr h => ?_)
  · obtain ⟨t, ⟨⟨v, th, x, rfl, _⟩, _⟩, _⟩ := h
    rfl
  · obtain ⟨⟨sg, t⟩, ⟨⟨u, v, x, rfl, hF, tv⟩, so, ok, small, bad⟩, q⟩ := h
    refine ⟨_, (pss_cons (ps_expr (pe_clX c_need_termA (takes_of rfl rfl rfl rfl) hr (by first | decide | omega) (by rfl) (pa_cons (pv 0) (pa_cons (pv 1) pa_nil))))
      (pss_cons (ps_never)
      (pss_cons (ps_never)
      (pss_one (ps_never))))), ?_⟩
    exact do_try (W0 := fun _ => fun cls d _ H => E cls d H) (ea_cons (ev_var rfl) (ea_cons (ev_var rfl) ea_nil) H (Ex.refl _) _ fun H2 e2 => ⟨(sg, t), ⟨⟨⟨_, _, rfl, hF.ex e2, tv.ex e2⟩, so, ok, small⟩, bad⟩, fun H3 e3 => q H3 (e2.trans e3)⟩)
end
end K02
end
section
namespace K02
open PySem PySem.Spec PyProof.Rows L2 Evl RZ Dw M20
theorem hu65 {A : Around} {k : Nat} (hr : Room k A) : A.units + 65 < cLine := by
  have := hr.un
  omega
def pairD (p : Str × Nat) : PyData := .tuple [.str p.1, .int ((p.2 : Nat) : Int)]
theorem eqv_pair (a b : Str) (i j : Int) : PyData.eqv (.tuple [.str a, .int i]) (.tuple [.str b, .int j]) = (a == b && i == j) := by
  simp only [PyData.eqv, PyData.eqvAll, Bool.and_true]
theorem sig_any (sg : List (Str × Nat)) (f : Str) (n : Nat) : (sg.map pairD).any (fun z => PyData.eqv z (.tuple [.str f, .int (n : Int)])) = decide ((f, n) ∈ sg) := by
  by_cases h : (f, n) ∈ sg
  · rw [decide_eq_true h, List.any_eq_true]
    exact ⟨pairD (f, n), List.mem_map_of_mem h, by rw [pairD, eqv_pair]; simp⟩
  · rw [decide_eq_false h, List.any_eq_false]
    intro z hz
    obtain ⟨⟨a, m⟩, hp, rfl⟩ := List.mem_map.mp hz
    rw [pairD, eqv_pair]
    intro e
    rw [Bool.and_eq_true, beq_iff_eq, beq_iff_eq] at e
    obtain ⟨e1, e2⟩ := e
    have e3 : m = n := by
      replace e2 : ((m : Nat) : Int) = (n : Int) := e2
      omega
    replace e1 : a = f := e1
    subst e1 e3
    exact h hp
theorem pair_shaped (f : Str) (i : Int) (h : PyData.strOk f = true) : SeqAt.shaped (.tuple [.str f, .int i]) = true := by
  simp [SeqAt.shaped, PyData.canLay0, PyData.canLayAll0, PyData.depth, PyData.depthAll, h]
theorem name_strOk {z : Str} (h : Name z) : PyData.strOk z = true := by
  have g := (gd_strB (name_cps h) (by have := h.l4; exact this)).lay
  simpa [PyData.canLay0] using g
section
variable {P : Program} {w : World} {K : PySem.W.Frag} {mg : Str → Option Value} {base : Heap} {σ : L2.St} {H : Hp} {va : Addr}
def sp_fits (K : PySem.W.Frag) : Sp := spX (fun (p : List (Str × Nat) × Bt) vs H => (∃ u v, vs = [u, v] ∧ FSig K H u p.1 ∧ BtV K H p.1 p.2 v) ∧ SigOk p.1 ∧ p.2.ok p.1) (fun p v _ => v = .bl p.2.fits)
theorem c_fits (T : Txt mg) (D : Df K mg "_law_fits" s__law_fits ["_law_deeds_here", "_law_piece"]) : Cl P w K mg base 1 "_law_fits" (sp_fits K) := by
  refine cl_of (k := 0) D sc__law_fits (fun vs H Q E h => ?_) (fun f cdv A outer s H vs Q E hr h => ?_)
  · obtain ⟨p, ⟨⟨d, v, rfl, _⟩, _⟩, _⟩ := h
    rfl
  · obtain ⟨⟨sg, t⟩, ⟨⟨sv, v, rfl, hF, tv⟩, so, ok⟩, q⟩ := h
    refine ⟨_, (pss_cons (ps_if (PW.pt (pw_or (pt_not (pt_val (pe_callB call_isi (by rfl) T.z_isinstance (by decide +kernel) (pa_cons (pv 1) (pa_cons (pe_ty "tuple" (by rfl) T.z_tuple (by decide +kernel)) pa_nil))))) (pw_or (pt_cmpR op_notIn_seq (pe_callB call_len_seq (by rfl) T.z_len PySem.boot_len (pa_cons (pv 1) pa_nil)) (pe_lst (pa_cons pe_int (pa_cons pe_int pa_nil))) (by rfl)) (pw_or1 (pt_cmpR op_notIn_seq (pe_ix ix_tup (pv 1) pe_int (fun _ _ => rfl)) (pe_lst (pa_cons pe_str (pa_cons pe_str pa_nil))) (by rfl))))))
        (pss_one (ps_ret pe_bl))
        pss_nil)
      (pss_cons (ps_if (pt_cmpR op_eq (pe_ix ix_tup (pv 1) pe_int (fun _ _ => rfl)) pe_str (nomark _))
        (pss_one (ps_ret (pe_and (pe_cmpR op_eq (pe_callB call_len_seq (by rfl) T.z_len PySem.boot_len (pa_cons (pv 1) pa_nil)) pe_int (nomark _)) (pe_one (pe_cmpR op_in_seq (pe_ix ix_tup (pv 1) pe_int (fun _ _ => rfl)) (pe_lst (pa_cons pe_str (pa_cons pe_str (pa_cons pe_str (pa_cons pe_str (pa_cons pe_str (pa_cons pe_str pa_nil))))))) (by rfl))))))
        pss_nil)
      (pss_cons (ps_if (PW.pt (pw_or (pt_cmpR op_ne (pe_callB call_len_seq (by rfl) T.z_len PySem.boot_len (pa_cons (pv 1) pa_nil)) pe_int (nomark _)) (pw_or (pt_not (pt_val (pe_callB call_isi (by rfl) T.z_isinstance (by decide +kernel) (pa_cons (pe_ix ix_tup (pv 1) pe_int (fun _ _ => rfl)) (pa_cons (pe_ty "str" (by rfl) T.z_str (by decide +kernel)) pa_nil))))) (pw_or1 (pt_not (pt_val (pe_callB call_isi (by rfl) T.z_isinstance (by decide +kernel) (pa_cons (pe_ix ix_tup (pv 1) pe_int (fun _ _ => rfl)) (pa_cons (pe_ty "tuple" (by rfl) T.z_tuple (by decide +kernel)) pa_nil)))))))))
        (pss_one (ps_ret pe_bl))
        pss_nil)
      (pss_one (ps_ret (pe_cmpR (op_inTD (hu65 hr)) (pe_tup (pa_cons (pe_ix ix_tup (pv 1) pe_int (fun _ _ => rfl)) (pa_cons (pe_callB call_len_seq (by rfl) T.z_len PySem.boot_len (pa_cons (pe_ix ix_tup (pv 1) pe_int (fun _ _ => rfl)) pa_nil)) pa_nil))) (pv 0) (by rfl))))))), ?_⟩
    replace tv : BtV K H sg t v := tv
    replace ok : t.ok sg := ok
    replace so : SigOk sg := so
    replace hF : FSig K H sv sg := hF
    replace q : ∀ r H', Ex H H' → r = .bl t.fits → Q r H' := q
    have isT : ∀ {a : Addr} {xs : List V}, SqT K H a xs → ∀ {H1 : Hp}, Ex H H1 → EvT (tNot (tB (tCB (rIsi K) (tCons (tVar 1) (tCons (tC (.ty "tuple")) tNil))))) [some sv, some (.ref a)] H1 false := fun {a xs} h {H1} e1 => et_is (et_not (et_val (ev_isi (ev_var rfl) ev_c (.ty _) (fun _ e => tyx_tup (ex_t (e1.trans e) h)) kit_tt))) rfl
    have lenIn : ∀ {a : Addr} {xs : List V}, SqT K H a xs → ∀ {H1 : Hp}, Ex H H1 → EvT (tTest (tOp (rIn K true) (tCB (rLenS K) (tCons (tVar 1) tNil)) (tLst (tCons (tC (.int 2)) (tCons (tC (.int 3)) tNil))))) [some sv, some (.ref a)] H1 (!(decide (xs.length = 2) || decide (xs.length = 3))) := fun {a xs} h {H1} e1 => et_is (et_test (ev_opL (ev_lenT (ev_var rfl) (ex_t e1 h)) (el_lst (vs := [.int 2, .int 3]) (ea_cons ev_c (ea_cons ev_c ea_nil)) (by decide)) (fun p H2 hp e2 => rv_niL (sq_of hp) rfl rfl))) (by
      have e2 : inV (.int (xs.length : Int)) [.int 2, .int 3] = (decide (xs.length = 2) || decide (xs.length = 3)) := by
        show (decide _ || (decide _ || false)) = _
        rw [Bool.or_false]
        congr 1 <;> (rw [decide_eq_decide]; constructor <;> (intro z; omega))
      rw [e2])
    have at0 : ∀ {a : Addr} {x : V} {xs : List V} {k : Nat}, SqT K H a xs → xs[k]? = some x → ∀ {H1 : Hp}, Ex H H1 → Ev (tOp (rIxT K) (tVar 1) (tC (vi k))) [some sv, some (.ref a)] H1 x := fun {a x xs k} h hk {H1} e1 => ev_op (ev_var rfl) ev_c (rv_ixT (K := K) (ex_t e1 h) (atI_vi (k := k) hk))
    have str_ne : ∀ {z y : Str}, z ≠ y → decide (V.str z = V.str y) = false := fun {z y} h => decide_eq_false (fun e => h (by injection e))
    have headIn : ∀ {a : Addr} {z : Str} {xs : List V}, SqT K H a (.str z :: xs) → ∀ {H1 : Hp}, Ex H H1 → EvT (tTest (tOp (rIn K true) (tOp (rIxT K) (tVar 1) (tC (vi 0))) (tLst (tCons (tC (.str "var")) (tCons (tC (.str "deed")) tNil))))) [some sv, some (.ref a)] H1 (!decide (z ∈ [("var" : Str), "deed"])) := fun {a z xs} h {H1} e1 => et_is (et_test (ev_opL (at0 (k := 0) h rfl e1) (el_lst (vs := [.str "var", .str "deed"]) (ea_cons ev_c (ea_cons ev_c ea_nil)) (by decide)) (fun p H2 hp e2 => rv_niL (sq_of hp) rfl rfl))) (by rw [← inV_str]; rfl)
    have front : ∀ {a : Addr} {z : Str} {xs : List V}, SqT K H a (.str z :: xs) → (xs.length = 1 ∨ xs.length = 2) → ∀ {H1 : Hp}, Ex H H1 → EvT (tOr (tNot (tB (tCB (rIsi K) (tCons (tVar 1) (tCons (tC (.ty "tuple")) tNil))))) (tOr (tTest (tOp (rIn K true) (tCB (rLenS K) (tCons (tVar 1) tNil)) (tLst (tCons (tC (.int 2)) (tCons (tC (.int 3)) tNil))))) (tTest (tOp (rIn K true) (tOp (rIxT K) (tVar 1) (tC (vi 0))) (tLst (tCons (tC (.str "var")) (tCons (tC (.str "deed")) tNil))))))) [some sv, some (.ref a)] H1 (!decide (z ∈ [("var" : Str), "deed"])) := fun {a z xs} h hl {H1} e1 => et_is (et_or (a := false) (isT h e1) (fun _ => et_or (a := false) (et_is (lenIn h e1) (by
      rw [List.length_cons]
      rcases hl with hl | hl <;> rw [hl] <;> rfl)) (fun _ => headIn h e1))) rfl
    have isV : ∀ {a : Addr} {z : Str} {xs : List V}, SqT K H a (.str z :: xs) → ∀ {H1 : Hp}, Ex H H1 → EvT (tTest (tOp rEq (tOp (rIxT K) (tVar 1) (tC (vi 0))) (tC (.str "var")))) [some sv, some (.ref a)] H1 (decide (V.str z = V.str "var")) := fun {a z xs} h {H1} e1 => et_test (ev_op (at0 (k := 0) h rfl e1) ev_c (rv_eq rfl))
    have noF : ∀ {w0 : V} {H1 : Hp}, Ex H H1 → t.fits = false → tRet (tC (.bl false)) { nx := fun _ H' => Q .non H', rt := Q } [some sv, some w0] H1 := fun {w0 H1} e1 hf => s_ret (v := .bl false) ev_c fun H2 e2 => q _ H2 (e1.trans e2) (by rw [hf])
    have len2 : ∀ {a : Addr} {xs : List V}, SqT K H a xs → ∀ {H1 : Hp}, Ex H H1 → Ev (tOp rEq (tCB (rLenS K) (tCons (tVar 1) tNil)) (tC (.int 2))) [some sv, some (.ref a)] H1 (.bl (decide (xs.length = 2))) := fun {a xs} h {H1} e1 => ev_is (ev_op (ev_lenT (ev_var rfl) (ex_t e1 h)) ev_c (rv_eq rfl)) (by
      show V.bl (decide (V.int (xs.length : Int) = V.int 2)) = _
      congr 1
      rw [decide_eq_decide]
      exact ⟨fun y => by injection y with y; omega, fun y => by rw [y]; rfl⟩)
    have ne3 : ∀ {a : Addr} {xs : List V}, SqT K H a xs → ∀ {H1 : Hp}, Ex H H1 → EvT (tTest (tOp rNe (tCB (rLenS K) (tCons (tVar 1) tNil)) (tC (.int 3)))) [some sv, some (.ref a)] H1 (!decide (xs.length = 3)) := fun {a xs} h {H1} e1 => et_is (et_test (ev_op (ev_lenT (ev_var rfl) (ex_t e1 h)) ev_c (rv_ne rfl))) (by
      show (!decide (V.int (xs.length : Int) = V.int 3)) = _
      congr 1
      rw [decide_eq_decide]
      exact ⟨fun y => by injection y with y; omega, fun y => by rw [y]; rfl⟩)
    have isS : ∀ {a : Addr} {f : Str} {xs : List V}, SqT K H a xs → xs[1]? = some (.str f) → ∀ {H1 : Hp}, Ex H H1 → EvT (tNot (tB (tCB (rIsi K) (tCons (tOp (rIxT K) (tVar 1) (tC (vi 1))) (tCons (tC (.ty "str")) tNil))))) [some sv, some (.ref a)] H1 false := fun {a f xs} h hx {H1} e1 => et_is (et_not (et_val (ev_isi (at0 (k := 1) h hx e1) ev_c (.ty _) (fun _ _ => tyx_str f) kit_ss))) rfl
    have isT2 : ∀ {a b : Addr} {us xs : List V}, SqT K H a xs → xs[2]? = some (.ref b) → SqT K H b us → ∀ {H1 : Hp}, Ex H H1 → EvT (tNot (tB (tCB (rIsi K) (tCons (tOp (rIxT K) (tVar 1) (tC (vi 2))) (tCons (tC (.ty "tuple")) tNil))))) [some sv, some (.ref a)] H1 false := fun {a b us xs} h hx hb {H1} e1 => et_is (et_not (et_val (ev_isi (at0 (k := 2) h hx e1) ev_c (.ty _) (fun _ e => tyx_tup (ex_t (e1.trans e) hb)) kit_tt))) rfl
    have fin : ∀ {a b : Addr} {f : Str} {us : List V}, SqT K H a [.str "deed", .str f, .ref b] → SqT K H b us → t.fits = decide ((f, us.length) ∈ sg) → PyData.strOk f = true → ∀ {H1 : Hp}, Ex H H1 → tRet (tOp (rInTD K) (tTup (tCons (tOp (rIxT K) (tVar 1) (tC (vi 1))) (tCons (tCB (rLenS K) (tCons (tOp (rIxT K) (tVar 1) (tC (vi 2))) tNil)) tNil))) (tVar 0)) { nx := fun _ H' => Q .non H', rt := Q } [some sv, some (.ref a)] H1 := fun {a b f us} h hb hf sk {H1} e1 => by
      refine do_ret (do_op (do_tup (do_cons (do_ev (at0 (k := 1) h rfl e1) fun H2 e2 => do_cons (do_ev (ev_lenT (at0 (k := 2) h rfl (e1.trans e2)) (ex_t (e1.trans e2) hb)) fun H3 e3 => do_nil ⟨by show 2 ≤ sizeLine; decide, fun r nr => do_ev (ev_var rfl) fun H4 e4 => ?_⟩)))))
      have x4 : Ex H H4 := (((e1.trans e2).trans e3).trans (Ex.new nr)).trans e4
      refine ⟨.tuple [.str f, .int ((us.length : Nat) : Int)], sg.map pairD, .tup (st_of (e4 _ _ upd_same)) (.cons (.str _) (.cons (.int _) .nil)), (hF.ex x4).sig.dp, pair_shaped _ _ sk, so.gdS.shaped (by decide), ?_⟩
      rw [sig_any]
      exact q _ H4 x4 (by rw [hf])
    cases t with
    | var x =>
      rw [BtV] at tv
      rw [Bt.ok] at ok
      obtain ⟨a, rfl, ha⟩ := tv
      refine q_when (b := false) (et_is (front ha (.inl rfl) (Ex.refl _)) rfl) (fun hb => by cases hb) (fun _ H1 e1 => ?_)
      refine q_when (b := true) (et_is (isV ha e1) (by decide)) (fun _ H2 e2 => ?_) (fun hb => by cases hb)
      have e02 := e1.trans e2
      refine s_ret (v := .bl true) (ev_is (ev_andV (len2 ha e02) (fun _ => ev_opL (at0 (k := 1) ha rfl e02) (el_lst (vs := vars.map V.str) (ea_cons ev_c (ea_cons ev_c (ea_cons ev_c (ea_cons ev_c (ea_cons ev_c (ea_cons ev_c ea_nil)))))) (by decide)) (fun p H3 hp e3 => rv_isL (sq_of hp) rfl (flat_strs vars)))) (by rw [inV_str, decide_eq_true ok]; rfl)) fun H3 e3 => q _ H3 (e02.trans e3) rfl
    | deed f ts =>
      rw [BtV] at tv
      rw [Bt.ok] at ok
      obtain ⟨a, b, us, rfl, ha, hb, tms⟩ := tv
      have lu := tms.len
      refine q_when (b := false) (et_is (front ha (.inr rfl) (Ex.refl _)) rfl) (fun hb => by cases hb) (fun _ H1 e1 => ?_)
      refine q_when (b := false) (et_is (isV ha e1) (by decide)) (fun hb => by cases hb) (fun _ H2 e2 => ?_)
      have e02 := e1.trans e2
      refine q_when (b := false) (et_is (et_or (a := false) (b := false) (ne3 ha e02) (fun _ => et_is (et_or (a := false) (b := false) (isS ha rfl e02) (fun _ => isT2 ha rfl hb e02)) rfl)) rfl) (fun hb => by cases hb) (fun _ H3 e3 => ?_)
      exact fin ha hb (by rw [lu, decide_eq_true ok.1]; rfl) (name_strOk (so.nm _ ok.1)) (e02.trans e3)
    | odd dd =>
      rw [BtV] at tv
      obtain ⟨_, nf⟩ := tv
      cases nf with
      | tup h => exact q_when (b := true) (et_is (et_or (a := true) (b := false) (et_is (et_not (et_val (ev_noTu (K := K) (ev_var rfl) ev_c h))) rfl) (fun z => by cases z)) rfl) (fun _ H1 e1 => noF e1 rfl) (fun hb => by cases hb)
      | len h h2 h3 =>
        exact q_when (b := true) (et_is (et_or (a := false) (b := true) (isT h (Ex.refl _)) (fun _ => et_is (et_or (a := true) (b := false) (et_is (lenIn h (Ex.refl _)) (by rw [decide_eq_false h2, decide_eq_false h3]; rfl)) (fun z => by cases z)) rfl)) rfl) (fun _ H1 e1 => noF e1 rfl) (fun hb => by cases hb)
      | @two a z x h ne =>
        by_cases zd : z = "deed"
        · subst zd
          refine q_when (b := false) (et_is (front h (.inl rfl) (Ex.refl _)) rfl) (fun hb => by cases hb) (fun _ H1 e1 => ?_)
          refine q_when (b := false) (et_is (isV h e1) (by decide)) (fun hb => by cases hb) (fun _ H2 e2 => ?_)
          exact q_when (b := true) (et_is (et_or (a := true) (b := false) (et_is (ne3 h (e1.trans e2)) rfl) (fun z => by cases z)) rfl) (fun _ H3 e3 => noF ((e1.trans e2).trans e3) rfl) (fun hb => by cases hb)
        · exact q_when (b := true) (et_is (front h (.inl rfl) (Ex.refl _)) (by rw [decide_eq_false (by simp [ne, zd])]; rfl)) (fun _ H1 e1 => noF e1 rfl) (fun hb => by cases hb)
      | letter h fl no =>
        refine q_when (b := false) (et_is (front h (.inl rfl) (Ex.refl _)) rfl) (fun hb => by cases hb) (fun _ H1 e1 => ?_)
        refine q_when (b := true) (et_is (isV h e1) (by decide)) (fun _ H2 e2 => ?_) (fun hb => by cases hb)
        have e02 := e1.trans e2
        exact s_ret (v := .bl false) (ev_is (ev_andV (len2 h e02) (fun _ => ev_opL (at0 (k := 1) h rfl e02) (el_lst (vs := vars.map V.str) (ea_cons ev_c (ea_cons ev_c (ea_cons ev_c (ea_cons ev_c (ea_cons ev_c (ea_cons ev_c ea_nil)))))) (by decide)) (fun p H3 hp e3 => rv_isL (sq_of hp) fl (flat_strs vars)))) (by rw [no, Bool.and_false])) fun H3 e3 => q _ H3 (e02.trans e3) rfl
      | @three a z x y h ne =>
        by_cases zd : z = "var"
        · subst zd
          refine q_when (b := false) (et_is (front h (.inr rfl) (Ex.refl _)) rfl) (fun hb => by cases hb) (fun _ H1 e1 => ?_)
          refine q_when (b := true) (et_is (isV h e1) (by decide)) (fun _ H2 e2 => ?_) (fun hb => by cases hb)
          exact s_ret (v := .bl false) (ev_is (ev_andV (a := false) (b := false) (ev_is (len2 h (e1.trans e2)) rfl) (fun z => by cases z)) rfl) fun H3 e3 => q _ H3 ((e1.trans e2).trans e3) rfl
        · exact q_when (b := true) (et_is (front h (.inr rfl) (Ex.refl _)) (by rw [decide_eq_false (by simp [ne, zd])]; rfl)) (fun _ H1 e1 => noF e1 rfl) (fun hb => by cases hb)
      | @name a x y h no =>
        refine q_when (b := false) (et_is (front h (.inr rfl) (Ex.refl _)) rfl) (fun hb => by cases hb) (fun _ H1 e1 => ?_)
        refine q_when (b := false) (et_is (isV h e1) (by decide)) (fun hb => by cases hb) (fun _ H2 e2 => ?_)
        have e02 := e1.trans e2
        exact q_when (b := true) (et_is (et_or (a := false) (b := true) (ne3 h e02) (fun _ => et_is (et_or (a := true) (b := false) (et_is (et_not (et_val (ev_noStr (K := K) (at0 (k := 1) h rfl e02) ev_c (no.ex e02)))) rfl) (fun z => by cases z)) rfl)) rfl) (fun _ H3 e3 => noF (e02.trans e3) rfl) (fun hb => by cases hb)
      | @terms a f y h no =>
        refine q_when (b := false) (et_is (front h (.inr rfl) (Ex.refl _)) rfl) (fun hb => by cases hb) (fun _ H1 e1 => ?_)
        refine q_when (b := false) (et_is (isV h e1) (by decide)) (fun hb => by cases hb) (fun _ H2 e2 => ?_)
        have e02 := e1.trans e2
        exact q_when (b := true) (et_is (et_or (a := false) (b := true) (ne3 h e02) (fun _ => et_is (et_or (a := false) (b := true) (isS h rfl e02) (fun _ => et_is (et_not (et_val (ev_noTu (K := K) (at0 (k := 2) h rfl e02) ev_c (no.ex e02)))) rfl)) rfl)) rfl) (fun _ H3 e3 => noF (e02.trans e3) rfl) (fun hb => by cases hb)
      | @many a b f us h h2 no sk =>
        refine q_when (b := false) (et_is (front h (.inr rfl) (Ex.refl _)) rfl) (fun hb => by cases hb) (fun _ H1 e1 => ?_)
        refine q_when (b := false) (et_is (isV h e1) (by decide)) (fun hb => by cases hb) (fun _ H2 e2 => ?_)
        have e02 := e1.trans e2
        refine q_when (b := false) (et_is (et_or (a := false) (b := false) (ne3 h e02) (fun _ => et_is (et_or (a := false) (b := false) (isS h rfl e02) (fun _ => isT2 h rfl h2 e02)) rfl)) rfl) (fun hb => by cases hb) (fun _ H3 e3 => ?_)
        exact fin h h2 (by rw [decide_eq_false no]; rfl) sk (e02.trans e3)
end
end K02
end
section
namespace K02
open PySem PySem.Spec PyProof.Rows L2 Evl RZ Dw M20
theorem bsz1 : ∀ t : Bt, 1 ≤ t.sz
  | .var x => by rw [Bt.sz]; exact Nat.le_refl _
  | .deed f ts => by rw [Bt.sz]; omega
  | .odd d => by rw [Bt.sz]; exact Nat.le_refl _
theorem mets_app : ∀ (as bs : List Bt) (p : List Nat) (k : Nat), mets (as ++ bs) p k = mets as p k ++ mets bs p (k + as.length)
  | [], bs, p, k => by
    rw [mets]
    rfl
  | a :: as, bs, p, k => by
    rw [List.cons_append, mets, mets, mets_app as bs p (k + 1), List.append_assoc, List.length_cons, show k + 1 + as.length = k + (as.length + 1) by omega]
theorem mets_one {ts : List Bt} {i : Nat} (p : List Nat) (h : i < ts.length) : mets (ts.take (i + 1)) p 0 = mets (ts.take i) p 0 ++ (ts[i]).met (p ++ [i]) := by
  rw [List.take_add_one, List.getElem?_eq_getElem h]
  show mets (ts.take i ++ [ts[i]]) p 0 = _
  rw [mets_app, mets, mets, List.append_nil, List.length_take, Nat.zero_add, Nat.min_eq_left (by omega)]
theorem bszs_app : ∀ as bs : List Bt, bszs (as ++ bs) = bszs as + bszs bs
  | [], bs => by rw [bszs, Nat.zero_add]; rfl
  | a :: as, bs => by rw [List.cons_append, bszs, bszs, bszs_app as bs, Nat.add_assoc]
theorem bszs_take_le (ts : List Bt) (i : Nat) : bszs (ts.take i) ≤ bszs ts := by
  have := bszs_app (ts.take i) (ts.drop i)
  rw [List.take_append_drop] at this
  omega
section
variable {P : Program} {w : World} {K : PySem.W.Frag} {mg : Str → Option Value} {base : Heap} {σ : L2.St} {H : Hp} {va : Addr} {sg : List (Str × Nat)}
def SmV (K : PySem.W.Frag) (H : Hp) (sg : List (Str × Nat)) (u : V) (e : List Nat × Bt) : Prop := ∃ (a b : Addr) (v : V), u = .ref a ∧ SqT K H a [.ref b, v] ∧ SqT K H b (e.1.map vi) ∧ BtV K H sg e.2 v
theorem SmV.ex {H' : Hp} {u : V} {e : List Nat × Bt} (x : Ex H H') (h : SmV K H sg u e) : SmV K H' sg u e := let ⟨a, b, v, h1, h2, h3, h4⟩ := h; ⟨a, b, v, h1, ex_t x h2, ex_t x h3, h4.ex x⟩
def SmsV (K : PySem.W.Frag) (H : Hp) (sg : List (Str × Nat)) (v : V) (es : List (List Nat × Bt)) : Prop := ∃ (l : Addr) (us : List V), v = .ref l ∧ H l = some (.lst us) ∧ Paired (SmV K H sg) us es
theorem SmsV.ex {H' : Hp} {u : V} {e : List (List Nat × Bt)} (x : Ex H H') (h : SmsV K H sg u e) : SmsV K H' sg u e := let ⟨a, us, h1, h2, h3⟩ := h; ⟨a, us, h1, x _ _ h2, paired_imp (fun _ _ z => z.ex x) h3⟩
structure MQ where
  sg : List (Str × Nat)
  t : Bt
  p : List Nat
def sp_met (K : PySem.W.Frag) (n : Nat) : Sp := spX (fun (q : MQ) vs H => (∃ u v a, vs = [u, v, .ref a] ∧ FSig K H u q.sg ∧ BtV K H q.sg q.t v ∧ SqT K H a (q.p.map vi)) ∧ SigOk q.sg ∧ q.t.ok q.sg ∧ q.t.sz ≤ n ∧ q.t.sz + q.p.length ≤ 200) (fun q v H => SmsV K H q.sg v (q.t.met q.p))
theorem c_met (T : Txt mg) (D : Df K mg "_law_met" s__law_met ["_law_deeds_here", "_law_piece", "_law_path"]) (c_fits : Cl P w K mg base 1 "_law_fits" (sp_fits K)) : ∀ n : Nat, Cl P w K mg base (n + 2) "_law_met" (sp_met K n) := by
  intro n
  induction n with
  | zero =>
    refine cl_of (k := 1) D sc__law_met (fun vs H Q E h => ?_) (fun f cdv A outer s H vs Q E hr h => ?_)
    · obtain ⟨q, ⟨⟨u, v, a, rfl, _⟩, _⟩, _⟩ := h
      rfl
    · obtain ⟨q, ⟨_, _, _, z, _⟩, _⟩ := h
      have := bsz1 q.t
      omega
  | succ n ih =>
    have c_met := ih
    refine cl_of (k := n + 2) D sc__law_met (fun vs H Q E h => ?_) (fun f cdv A outer s H vs Q E hr h => ?_)
    · obtain ⟨q, ⟨⟨u, v, a, rfl, _⟩, _⟩, _⟩ := h
      rfl
    · obtain ⟨⟨sg, t, p⟩, ⟨⟨sv, v, a, rfl, hF, tv, hp⟩, so, ok, sz, lim⟩, q⟩ := h
      refine ⟨_, (pss_cons (ps_set (i := 3) sc__law_met.nd rfl (.inl rfl) (pe_lst (pa_cons (pe_tup (pa_cons (pv 2) (pa_cons (pv 1) pa_nil))) pa_nil)))
      (pss_cons (ps_if (PW.pt (pw_and (pt_val (pe_cl c_fits hr (by first | decide | omega) (by rfl) (pa_cons (pv 0) (pa_cons (pv 1) pa_nil)))) (pw_and1 (pt_cmpR op_eq (pe_ix ix_tup (pv 1) pe_int (fun _ _ => rfl)) pe_str (nomark _)))))
        (pss_one (ps_for PassesOwn.never (by rfl) (pi_enumT (by rfl) T.z_enumerate (pa_cons (pe_ix ix_tup (pv 1) pe_int (fun _ _ => rfl)) pa_nil)) (pg_tup (by rfl) (pgs_cons (pg_name (i := 4) sc__law_met.nd rfl (.inl rfl)) (pgs_cons (pg_name (i := 5) sc__law_met.nd rfl (.inl rfl)) pgs_nil)))
          (pss_one (ps_set (i := 3) sc__law_met.nd rfl (.inl rfl) (pe_op op_cat (pv 3) (pe_cl c_met hr (by first | decide | omega) (by rfl) (pa_cons (pv 0) (pa_cons (pv 5) (pa_cons (pe_op op_catA (pv 2) (pe_tup (pa_cons (pv 4) pa_nil))) pa_nil)))))))))
        pss_nil)
      (pss_one (ps_ret (pv 3))))), ?_⟩
      replace hF : FSig K H sv sg := hF
      replace so : SigOk sg := so
      replace ok : t.ok sg := ok
      replace tv : BtV K H sg t v := tv
      replace hp : SqT K H a (p.map vi) := hp
      replace sz : t.sz ≤ n + 1 := sz
      replace lim : t.sz + p.length ≤ 200 := lim
      replace q : ∀ r H', Ex H H' → SmsV K H' sg r (t.met p) → Q r H' := q
      refine do_set (do_lst (do_cons (do_tup (do_cons (do_ev (ev_var rfl) fun H1 e1 => do_cons (do_ev (ev_var rfl) fun H2 e2 => do_nil ⟨by show 2 ≤ sizeLine; decide, fun c nc => do_nil ⟨by show 1 ≤ sizeLine; decide, fun l nl => ?_⟩⟩))))))
      have x3 : Ex H (upd (upd H2 c (.tup [.ref a, v])) l (.lst [.ref c])) := ((e1.trans e2).trans (Ex.new nc)).trans (Ex.new nl)
      have sc3 : SqT K (upd (upd H2 c (.tup [.ref a, v])) l (.lst [.ref c])) c [.ref a, v] := ex_t (Ex.new nl) (st_of upd_same)
      have hl3 : (upd (upd H2 c (.tup [.ref a, v])) l (.lst [.ref c])) l = some (.lst [.ref c]) := upd_same
      generalize upd (upd H2 c (.tup [.ref a, v])) l (.lst [.ref c]) = H3 at *
      have tv3 := tv.ex x3
      have sv3 : SmV K H3 sg (.ref c) (p, t) := ⟨c, a, v, rfl, sc3, ex_t x3 hp, tv3⟩
      show tSeq _ _ _ [some sv, some v, some (.ref a), some (.ref l), none, none] H3
      have fit : EvT (tB (tCall (sp_fits K) [] E0 (tCons (tVar 0) (tCons (tVar 1) tNil)))) [some sv, some v, some (.ref a), some (.ref l), none, none] H3 t.fits := et_val (ev_callV (v := .bl t.fits) (sg, t) (ea_cons (ev_var rfl) (ea_cons (ev_var rfl) ea_nil)) (fun H4 e4 => ⟨⟨_, _, rfl, hF.ex (x3.trans e4), tv3.ex e4⟩, so, ok⟩) (fun _ _ z => z))
      have leaf : t.met p = [(p, t)] → ∀ H4, Ex H3 H4 → tRet (tVar 3) { nx := fun _ H' => Q .non H', rt := Q } [some sv, some v, some (.ref a), some (.ref l), none, none] H4 := fun em H4 e4 => by
        refine s_ret (ev_var rfl) fun H5 e5 => q _ H5 (x3.trans (e4.trans e5)) ⟨l, _, rfl, (e4.trans e5) _ _ hl3, ?_⟩
        rw [em]
        exact .cons (sv3.ex (e4.trans e5)) .nil
      cases t with
      | odd d => exact q_when (b := false) (et_is (et_and (b := false) fit (fun z => by cases z)) rfl) (fun hb => by cases hb) (fun _ H4 e4 => leaf (by rw [Bt.met]) H4 e4)
      | var x =>
        rw [BtV] at tv3
        obtain ⟨b, rfl, hb⟩ := tv3
        exact q_when (b := false) (et_is (et_and (b := false) fit (fun _ => et_is (et_test (ev_op (ev_op (ev_var rfl) ev_c (rv_ixT (K := K) hb (atI_vi (k := 0) rfl))) ev_c (rv_eq rfl))) (by decide))) rfl) (fun hb => by cases hb) (fun _ H4 e4 => leaf (by rw [Bt.met]) H4 e4)
      | deed g ts =>
        rw [BtV] at tv3
        rw [Bt.ok] at ok
        obtain ⟨b, bb, us, rfl, hb, hbb, tms⟩ := tv3
        have lu := tms.len
        rw [Bt.sz] at sz lim
        refine q_when (b := true) (et_is (et_and (b := true) fit (fun _ => et_is (et_test (ev_op (ev_op (ev_var rfl) ev_c (rv_ixT (K := K) hb (atI_vi (k := 0) rfl))) ev_c (rv_eq rfl))) (by decide))) rfl) (fun _ H4 e4 => ?_) (fun hb => by cases hb)
        refine s_enumT (K := K) (ea_cons (ev_op (ev_var rfl) ev_c (rv_ixT (K := K) (ex_t e4 hb) (atI_vi (k := 2) rfl))) ea_nil) (ex_t e4 hbb) (fun i σ' H' => Ex H4 H' ∧ ∃ (l : Addr) (ws : List V) (y3 y4 : Option V), H' l = some (.lst ws) ∧ Paired (SmV K H' sg) ws ((p, .deed g ts) :: mets (ts.take i) p 0) ∧ σ' = [some sv, some (.ref b), some (.ref a), some (.ref l), y3, y4])
          (fun H5 e5 => ⟨e5, l, [.ref c], none, none, (e4.trans e5) _ _ hl3, by
            rw [List.take_zero, mets]
            exact .cons (sv3.ex (e4.trans e5)) .nil, rfl⟩) (fun i σ' H' _ ⟨e, _⟩ => ex_t (e4.trans e) hbb) (fun i x σ' H5 H6 hx hP e6 => ?_) (fun σ' H5 hP => ?_)
        · obtain ⟨e5, l5, ws, y3, y4, hl5, pr5, hσ⟩ := hP
          subst hσ
          have il : i < us.length := (List.getElem?_eq_some_iff.mp hx).1
          have il2 : i < ts.length := by omega
          have e06 : Ex H3 H6 := (e4.trans e5).trans e6
          obtain ⟨u', hu', tu'⟩ := (tms.ex e06).put il2
          rw [hx] at hu'
          cases Option.some.inj hu'
          have lw := paired_len pr5
          rw [List.length_cons, mets_len] at lw
          have st := bszs_take_le ts i
          have si : (ts[i]).sz ≤ bszs ts := bsz_le (List.getElem?_eq_getElem il2)
          show tAsg _ _ _ [some sv, some (.ref b), some (.ref a), some (.ref l5), some (vi i), some x] H6
          have pv1 : EvP (tVar 2) [some sv, some (.ref b), some (.ref a), some (.ref l5), some (vi i), some x] H6 (fun v H' => TupV K H' v (p.map vi)) := fun H7 e7 Q2 q2 => ev_var rfl H7 e7 _ fun H8 e8 => q2 _ H8 e8 ⟨a, rfl, ex_t (x3.trans (e06.trans (e7.trans e8))) hp⟩
          have pv2 := ep_cat (K := K) pv1 (ep_tup1 (K := K) (ta := tVar 4) (ev_var rfl)) (by rw [List.length_map]; show p.length + 1 ≤ 100000; omega)
          refine do_asg (do_op (do_ev (ev_var rfl) fun H7 e7 => do_cons (do_ev (ev_var rfl) fun H7' e7' => do_cons (do_ev (ev_var rfl) fun H8 e8 => do_cons (pv2 H8 ((e7.trans e7').trans e8) _ fun r H9 e9 hr9 => do_nil ?_)))))
          obtain ⟨ra, rfl, sr⟩ := hr9
          rw [pathN] at sr
          have e69 := ((e7.trans e7').trans e8).trans e9
          refine ⟨⟨sg, ts[i], p ++ [i]⟩, ⟨⟨sv, x, ra, rfl, hF.ex (x3.trans (e06.trans e69)), tu'.ex e69, sr⟩, so, boks_get il2 ok.2, by show (ts[i]).sz ≤ n; omega, by show (ts[i]).sz + (p ++ [i]).length ≤ 200; rw [List.length_append]; show _ + (p.length + 1) ≤ 200; omega⟩, fun r2 H10 e10 h10 => ?_⟩
          obtain ⟨l2, us2, rfl, hl2, pr2⟩ := h10
          have l2s := paired_len pr2
          have l2z : ((ts[i]).met (p ++ [i])).length = (ts[i]).sz := met_len _ _
          have e610 := e69.trans e10
          have e510 := e6.trans e610
          refine ⟨l5, l2, ws, us2, rfl, rfl, e510 _ _ hl5, hl2, sz_of (by
            have : us2.length = (ts[i]).sz := by rw [← l2z]; exact l2s
            omega), fun pn npn => ⟨(e5.trans e510).trans (Ex.new npn), pn, ws ++ us2, _, _, upd_same, ?_, rfl⟩⟩
          rw [mets_one p il2, ← List.cons_append]
          exact paired_append (paired_imp (fun _ _ z => z.ex (e510.trans (Ex.new npn))) pr5) (paired_imp (fun _ _ z => z.ex (Ex.new npn)) pr2)
        · obtain ⟨e5, l5, ws, y3, y4, hl5, pr5, hσ⟩ := hP
          subst hσ
          have fin : ∀ (D' : Ends), D'.rt = Q → tRet (tVar 3) D' [some sv, some (.ref b), some (.ref a), some (.ref l5), y3, y4] H5 := fun D' rt => s_ret (ev_var rfl) fun H6 e6 => by
            rw [rt]
            refine q _ H6 (x3.trans (e4.trans (e5.trans e6))) ⟨l5, ws, rfl, e6 _ _ hl5, ?_⟩
            rw [Bt.met]
            rw [List.take_of_length_le (by omega)] at pr5
            exact paired_imp (fun _ _ z => z.ex e6) pr5
          exact fin _ rfl
end
end K02
end
section
namespace K02
open PySem PySem.Spec PyProof.Rows L2 Evl RZ Dw M20
def oddP (l : List (List Nat × Bt)) : List (List Nat) := (l.filter fun e => !e.2.fits).map (·.1)
theorem oddP_app (a b : List (List Nat × Bt)) : oddP (a ++ b) = oddP a ++ oddP b := by
  rw [oddP, List.filter_append, List.map_append]
  rfl
theorem oddP_nil {l : List (List Nat × Bt)} (h : oddP l = []) : wrongL l = if 60 < l.length then .tuple [.str "parts"] else .none := by
  refine wrongL_fine fun x hx => ?_
  cases hf : x.2.fits with
  | true => rfl
  | false =>
    have : x ∈ l.filter fun e => !e.2.fits := List.mem_filter.mpr ⟨hx, by rw [hf]; rfl⟩
    rw [List.map_eq_nil_iff.mp h] at this
    cases this
theorem oddP_cons : ∀ {l : List (List Nat × Bt)} {p : List Nat} {r : List (List Nat)}, oddP l = p :: r → wrongL l = .tuple [.str "term", .tuple (natsD p)]
  | [], p, r, h => by cases h
  | e :: l, p, r, h => by
    cases hf : e.2.fits with
    | true =>
      have h2 : oddP l = p :: r := by
        rw [← h, oddP, oddP, List.filter_cons_of_neg (by rw [hf]; decide)]
      have := oddP_cons h2
      rw [wrongL] at this ⊢
      rw [List.find?_cons_of_neg (by rw [hf]; decide)]
      cases hl : l.find? (fun e => !e.2.fits) with
      | some z =>
        rw [hl] at this
        exact this
      | none =>
        rw [hl] at this
        exfalso
        replace this : (if 60 < l.length then PyData.tuple [.str "parts"] else .none) = .tuple [.str "term", .tuple (natsD p)] := this
        split at this <;> cases this
    | false =>
      rw [oddP, List.filter_cons_of_pos (by rw [hf]; rfl), List.map_cons] at h
      injection h with h1 h2
      have := wrongL_odd (a := []) (b := l) (e := e) (fun x hx => by cases hx) hf
      rw [List.nil_append] at this
      rw [this, h1]
section
variable {P : Program} {w : World} {K : PySem.W.Frag} {mg : Str → Option Value} {base : Heap} {σ : L2.St} {H : Hp} {va : Addr} {sg : List (Str × Nat)}
theorem do_odd {E : XK} {sv v : V} {l : Addr} {us : List V} {es : List (List Nat × Bt)} (hl : H l = some (.lst us)) (pr : Paired (SmV K H sg) us es) (hF : FSig K H sv sg) (so : SigOk sg) (oks : ∀ e ∈ es, e.2.ok sg) (few : us.length ≤ 200) {Q : VK} (q : ∀ a H', Ex H H' → PathsV K H' a (oddP es) → Q (.ref a) H') :
    tLc (iList K (tVar 2)) (gTup K 2 (gCons (gName 4) (gCons (gName 5) gNil))) (tNot (tB (tCall (sp_fits K) [] E (tCons (tVar 0) (tCons (tVar 5) tNil))))) (tVar 4) [4, 5] [some sv, some v, some (.ref l), none, none, none] H Q := by
  have lp := paired_len pr
  refine w_list (K := K) (xs := us) (ev_var rfl) (sq_of hl) H (Ex.refl _) _ fun H1 e1 Dl nD => lc_it walk_list (fun i H2 => Ex H1 H2 ∧ PathsV K H2 Dl (oddP (es.take i))) ⟨Ex.new nD, [], upd_same, .nil⟩ (fun i H2 _ p => ex_l (e1.trans p.1) (sq_of hl)) (fun i x H2 H3 hi p y => ?_) (fun H2 p => q _ H2 (e1.trans p.1) (by
    have := p.2
    rw [List.take_of_length_le (by omega)] at this
    exact this))
  obtain ⟨rfl, hx⟩ := y
  obtain ⟨e, he, a, b, u, rfl, s1, s2, tu⟩ := paired_at pr hx
  have e03 := e1.trans p.1
  have il : i < es.length := (List.getElem?_eq_some_iff.mp he).1
  have tk : es.take (i + 1) = es.take i ++ [e] := by rw [List.take_add_one, he]; rfl
  refine ⟨a, _, rfl, ex_t e03 s1, rfl, _, _, rfl, _, _, rfl, rfl, rfl, et_not (et_val (ev_callV (v := .bl e.2.fits) (sg, e.2) (ea_cons (ev_var rfl) (ea_cons (ev_var rfl) ea_nil)) (fun H4 e4 => ⟨⟨_, _, rfl, hF.ex (e03.trans e4), tu.ex (e03.trans e4)⟩, so, oks e (List.mem_of_getElem? he)⟩) (fun _ _ z => z))) _ (Ex.refl _) _ fun H5 e5 => ?_⟩
  obtain ⟨as, has, pas⟩ := p.2
  have las := paired_len pas
  have fl : (oddP (es.take i)).length ≤ i := by
    rw [oddP, List.length_map]
    exact Nat.le_trans (List.length_filter_le _ _) (by rw [List.length_take]; omega)
  cases hb : (!e.2.fits) with
  | true =>
    refine iteT ?_
    refine ev_var rfl _ (Ex.refl _) _ fun H4 e4 => ⟨_, e4 _ _ (e5 _ _ has), sz_lt (by rw [List.length_map]; omega), ((p.1.trans e5).trans e4).mut nD, as ++ [b], by rw [upd_same, List.map_append]; rfl, ?_⟩
    have et9 : ET K H3 (upd H4 Dl (.lst (as.map V.ref ++ [V.ref b]))) := (Dw.Ex.et (e5.trans e4)).upd (e4 _ _ (e5 _ _ has))
    rw [tk, oddP_app, show oddP [e] = [e.1] by rw [oddP, List.filter_cons_of_pos (by simpa using hb)]; rfl]
    exact paired_snoc (R := fun (a : Addr) (p : List Nat) => SqT K (upd H4 Dl (.lst (as.map V.ref ++ [V.ref b]))) a (p.map vi)) (et9 _ _ (ex_t e03 s2)) (paired_imp (fun _ _ z => et9 _ _ z) pas)
  | false =>
    refine iteF ⟨p.1.trans e5, as, e5 _ _ has, ?_⟩
    rw [tk, oddP_app, show oddP [e] = [] by rw [oddP, List.filter_cons_of_neg (by simpa using hb)]; rfl, List.append_nil]
    exact paired_imp (fun _ _ z => ex_t e5 z) pas
mutual
theorem met_ok : ∀ (t : Bt) (p : List Nat), t.ok sg → ∀ e ∈ t.met p, e.2.ok sg ∧ e.1.length + 1 ≤ p.length + t.sz
  | .var x, p, o, e, h => by
    rw [Bt.met, List.mem_singleton] at h
    subst h
    exact ⟨o, by rw [Bt.sz]; exact Nat.le_refl _⟩
  | .odd d, p, o, e, h => by
    rw [Bt.met, List.mem_singleton] at h
    subst h
    exact ⟨o, by rw [Bt.sz]; exact Nat.le_refl _⟩
  | .deed f ts, p, o, e, h => by
    rw [Bt.met] at h
    rcases List.mem_cons.mp h with z | z
    · subst z
      exact ⟨o, by rw [Bt.sz]; show p.length + 1 ≤ _; omega⟩
    · rw [Bt.ok] at o
      have := mets_ok ts p 0 o.2 e z
      rw [Bt.sz]
      exact ⟨this.1, by omega⟩
theorem mets_ok : ∀ (ts : List Bt) (p : List Nat) (k : Nat), boks sg ts → ∀ e ∈ mets ts p k, e.2.ok sg ∧ e.1.length ≤ p.length + bszs ts
  | [], p, k, o, e, h => by
    rw [mets] at h
    cases h
  | t :: ts, p, k, o, e, h => by
    rw [mets] at h
    rw [boks] at o
    rw [bszs]
    rcases List.mem_append.mp h with z | z
    · have := met_ok t (p ++ [k]) o.1 e z
      rw [List.length_append] at this
      exact ⟨this.1, by have := this.2; simp at this; omega⟩
    · have := mets_ok ts p (k + 1) o.2 e z
      exact ⟨this.1, by omega⟩
end
theorem ep_met {i : Nat} {E : XK} {te : TE} {sv v : V} {t : Bt} (h0 : Ev (tVar i) σ H sv) (h : Ev te σ H v) (hF : FSig K H sv sg) (so : SigOk sg) (tv : BtV K H sg t v) (ok : t.ok sg) (s : t.sz ≤ 70) : EvP (tCall (sp_met K 70) [] E (tCons (tVar i) (tCons te (tCons (tTup tNil) tNil)))) σ H (fun v H' => SmsV K H' sg v (t.met [])) := fun H1 e1 Q q => by
  refine do_cons (h0 H1 e1 _ fun H0 e0 => do_cons (h H0 (e1.trans e0) _ fun H2 e2 => do_cons (do_tup (do_nil ⟨Nat.zero_le _, fun a na => do_nil ?_⟩))))
  have x := (e1.trans e0).trans (e2.trans (Ex.new (o := .tup []) na))
  exact ⟨⟨sg, t, []⟩, ⟨⟨sv, v, a, rfl, hF.ex x, tv.ex x, st_of upd_same⟩, so, ok, s, by show t.sz + 0 ≤ 200; omega⟩, fun r H3 e3 hr => q r H3 ((e0.trans (e2.trans (Ex.new na))).trans e3) hr⟩
theorem lay_oddP {t : Bt} (ok : t.ok sg) (s : t.sz ≤ 70) : Lay (dPs (oddP (t.met []))) := by
  refine ⟨?_, ?_⟩
  · show PyData.canLayAll0 ((oddP (t.met [])).map fun p => .tuple (natsD p)) = true
    generalize oddP (t.met []) = ps
    induction ps with
    | nil => rfl
    | cons p ps ih =>
      show (PyData.canLayAll0 (natsD p) && PyData.canLayAll0 (ps.map fun p => .tuple (natsD p))) = true
      rw [nats_lay p, ih]
      rfl
  · have : PyData.depthAll ((oddP (t.met [])).map fun p => .tuple (natsD p)) ≤ 2 := by
      generalize oddP (t.met []) = ps
      induction ps with
      | nil => exact Nat.zero_le _
      | cons p ps ih =>
        have d := nats_depth p
        show max (PyData.depth (.tuple (natsD p))) (PyData.depthAll (ps.map fun p => .tuple (natsD p))) ≤ 2
        simp only [PyData.depth]
        omega
    show PyData.depth (.list _) ≤ 190
    simp only [PyData.depth]
    omega
def DPre (K : PySem.W.Frag) (p : List (Str × Nat) × Bt) (vs : List V) (H : Hp) : Prop := (∃ u v, vs = [u, v] ∧ FSig K H u p.1 ∧ BtV K H p.1 p.2 v) ∧ SigOk p.1 ∧ p.2.ok p.1 ∧ p.2.sz ≤ 70
def sp_due (K : PySem.W.Frag) : Sp := spX (DPre K) (fun p v H => Dp K H v (wrongL (p.2.met [])))
theorem c_due (T : Txt mg) (D : Df K mg "_law_due" s__law_due ["_law_deeds_here", "_law_piece"]) (c_fits : Cl P w K mg base 1 "_law_fits" (sp_fits K)) (c_met : Cl P w K mg base 72 "_law_met" (sp_met K 70)) : Cl P w K mg base 73 "_law_due" (sp_due K) := by
  refine cl_of (k := 72) D sc__law_due (fun vs H Q E h => ?_) (fun f cdv A outer s H vs Q E hr h => ?_)
  · obtain ⟨p, ⟨⟨u, v, rfl, _⟩, _⟩, _⟩ := h
    rfl
  · obtain ⟨⟨sg, t⟩, ⟨⟨sv, v, rfl, hF, tv⟩, so, ok, small⟩, q⟩ := h
    refine ⟨_, (pss_cons (ps_set (i := 2) sc__law_due.nd rfl (.inl rfl) (pe_cl c_met hr (by first | decide | omega) (by rfl) (pa_cons (pv 0) (pa_cons (pv 1) (pa_cons (pe_tup pa_nil) pa_nil)))))
      (pss_cons (ps_setLc (i := 3) (own := [("_law_path", 4), ("_law_bit", 5)]) (g := (gTup _ 2 (gCons (gName 4) (gCons (gName 5) gNil)))) (by rfl) sc__law_due.nd rfl rfl (sw_true rfl rfl rfl (by decide +kernel)) (pi_list (pv 2)) (blkOk_by (own := [("_law_path", 4), ("_law_bit", 5)]) (N := ["_law_deeds_here", "_law_piece", "_law_met_here", "_law_odd", "_law_path", "_law_bit"]) (sc := defScope s__law_due) (by decide +kernel)) (fun _ _ _ _ _ => (pg_tup (by rfl) (pgs_cons (pg_name (i := 4) sc__law_due.nd rfl (.inl rfl)) (pgs_cons (pg_name (i := 5) sc__law_due.nd rfl (.inl rfl)) pgs_nil)))) (fun _ _ _ _ _ => (pts_one (pt_not (pt_val (pe_cl c_fits hr (by first | decide | omega) (by rfl) (pa_cons (pv 0) (pa_cons (pv 5) pa_nil))))))) (fun _ _ _ _ _ => (pv 4)))
      (pss_cons (ps_if (pt_cmpR (op_neL hr) (pv 3) (pe_lst pa_nil) (nomark _))
        (pss_one (ps_ret (pe_tup (pa_cons pe_str (pa_cons (pe_ix ix_list (pv 3) pe_int (fun _ _ => rfl)) pa_nil)))))
        pss_nil)
      (pss_one (ps_ret (pe_ix ix_list (pe_lst (pa_cons pe_non (pa_cons (pe_tup (pa_cons pe_str pa_nil)) pa_nil))) (pe_callTy call_int1 (by rfl) T.z_int (by decide +kernel) (pa_cons (pe_cmpR op_gt (pe_callB call_len_seq (by rfl) T.z_len PySem.boot_len (pa_cons (pv 2) pa_nil)) pe_int (nomark _)) pa_nil)) (fun _ _ => rfl))))))), ?_⟩
    replace hF : FSig K H sv sg := hF
    replace tv : BtV K H sg t v := tv
    replace so : SigOk sg := so
    replace ok : t.ok sg := ok
    replace small : t.sz ≤ 70 := small
    replace q : ∀ r H', Ex H H' → Dp K H' r (wrongL (t.met [])) → Q r H' := q
    refine q_asgP (ep_met (K := K) (ev_var rfl) (ev_var rfl) hF so tv ok small) fun mv H1 e1 hm => ?_
    obtain ⟨l, us, rfl, hl, pr⟩ := hm
    have lus := paired_len pr
    rw [met_len] at lus
    have oks : ∀ e ∈ t.met [], e.2.ok sg := fun e he => (met_ok t [] ok e he).1
    show tSeq _ _ _ [some sv, some v, some (.ref l), none, none, none] H1
    refine do_set (do_odd (K := K) hl pr (hF.ex e1) so oks (by omega) fun a H2 e2 ha => ?_)
    show tSeq _ _ _ [some sv, some v, some (.ref l), some (.ref a), none, none] H2
    have x2 := e1.trans e2
    have lay := lay_oddP ok small
    have ne0 : EvT (tTest (tOp (rNeL K) (tVar 3) (tLst tNil))) [some sv, some v, some (.ref l), some (.ref a), none, none] H2 (!(oddP (t.met [])).isEmpty) := et_test (ev_opL (xs := []) (ev_var rfl) (el_lst ea_nil (by show 0 ≤ 100000; decide)) fun r H3 hr3 e3 => fun H4 e4 Q4 q4 => ⟨dPs (oddP (t.met [])), .list [], (ha.ex (e3.trans e4)).dp, .lst (sq_of (e4 _ _ hr3)) .nil, lay, ⟨rfl, by decide⟩, by
      have z := q4 H4 (Ex.refl _)
      cases hn : oddP (t.met []) with
      | nil =>
        rw [hn] at z
        exact z
      | cons p r =>
        rw [hn] at z
        exact z⟩)
    cases hn : oddP (t.met []) with
    | nil =>
      refine q_when (b := false) (et_is ne0 (by rw [hn]; rfl)) (fun hb => by cases hb) (fun _ H3 e3 => ?_)
      refine do_ret (do_op (do_lst (do_cons (do_ev ev_c fun H4 e4 => do_cons (do_tup (do_cons (do_ev ev_c fun H5 e5 => do_nil ⟨by show 1 ≤ sizeLine; decide, fun tp ntp => do_nil ⟨by show 2 ≤ sizeLine; decide, fun ll nll => ?_⟩⟩)))))))
      have x35 := (e4.trans e5).trans ((Ex.new (o := .tup [.str "parts"]) ntp).trans (Ex.new (o := .lst [.non, .ref tp]) nll))
      have htp := Ex.new (o := .lst [.non, .ref tp]) nll _ _ (upd_same (H := H5) (a := tp))
      have hll : (upd (upd H5 tp (.tup [.str "parts"])) ll (.lst [.non, .ref tp])) ll = some (.lst [.non, .ref tp]) := upd_same
      refine do_ev (ev_intK (b := decide (60 < t.sz)) (ev_is (ev_op (ev_len (ev_var rfl) (sq_of ((e2.trans (e3.trans x35)) _ _ hl))) ev_c rv_I0) (by
        show V.bl (decide ((us.length : Int) > 60)) = _
        congr 1
        rw [decide_eq_decide]
        omega))) fun H6 e6 => ?_
      have x6 := x2.trans ((e3.trans x35).trans e6)
      have wr := oddP_nil hn
      rw [met_len] at wr
      by_cases big : 60 < t.sz
      · rw [if_pos big] at wr
        exact ⟨ll, _, _, .ref tp, rfl, rfl, sq_of (e6 _ _ hll), (by rw [decide_eq_true big]; rfl), q _ H6 x6 (by rw [wr]; exact .tup (st_of (e6 _ _ htp)) (.cons (.str _) .nil))⟩
      · rw [if_neg big] at wr
        exact ⟨ll, _, _, .non, rfl, rfl, sq_of (e6 _ _ hll), (by rw [decide_eq_false big]; rfl), q _ H6 x6 (by rw [wr]; exact .non)⟩
    | cons p r =>
      obtain ⟨as, has, pas⟩ := ha
      rw [hn] at pas
      cases pas with
      | cons s0 pr0 =>
        refine q_when (b := true) (et_is ne0 (by rw [hn]; rfl)) (fun _ H3 e3 => ?_) (fun hb => by cases hb)
        refine s_retU (eu_tup (ea_cons ev_c (ea_cons (ev_op (ev_var rfl) ev_c (rv_ixL (K := K) (sq_of (e3 _ _ has)) (atI_vi (k := 0) rfl))) ea_nil)) (by show 2 ≤ 100000; decide)) fun rr H4 _ e4 hr4 => q _ H4 ((x2.trans e3).trans e4) ?_
        rw [oddP_cons hn]
        exact .tup (st_of hr4) (.cons (.str _) (.cons (.tup (ex_t (e3.trans e4) s0) (dps_vi p)) .nil))
end
end K02
end
section
namespace K02
open PySem PySem.Spec PyProof.Rows L2 Evl RZ Dw M20
mutual
def Bt.data : Bt → PyData
  | .var x => .tuple [.str "var", .str x]
  | .deed f ts => .tuple [.str "deed", .str f, .tuple (bdatas ts)]
  | .odd d => d
def bdatas : List Bt → List PyData
  | [] => []
  | t :: ts => t.data :: bdatas ts
end
mutual
def Bt.fine : Bt → Prop
  | .var _ => True
  | .deed _ ts => bfines ts
  | .odd d => Gd 5 100 d
def bfines : List Bt → Prop
  | [] => True
  | t :: ts => t.fine ∧ bfines ts
end
theorem gd_deed {f : Str} {k W : Nat} {ds : List PyData} (gf : Gd 0 4 (.str f)) (lay : PyData.canLayAll0 ds = true) (dep : PyData.depthAll ds ≤ k) (wgt : PyData.weightAll ds ≤ W) (its : PyData.intsShortAll 13 ds = true) (sho : PyData.showableAll ds = true) : Gd (k + 2) (W + 12) (.tuple [.str "deed", .str f, .tuple ds]) := by
  have g1 : Gd 0 4 (.str ("deed" : Str)) := gd_strB (by decide) (by decide)
  have w1 := g1.wgt
  have w2 := gf.wgt
  have d1 := g1.dep
  have d2 := gf.dep
  refine ⟨?_, ?_, ?_, ?_, ?_⟩
  · rw [PyData.canLay0, PyData.canLayAll0, PyData.canLayAll0, PyData.canLayAll0, PyData.canLayAll0, g1.lay, gf.lay, PyData.canLay0, lay]
    rfl
  · rw [PyData.depth, PyData.depthAll, PyData.depthAll, PyData.depthAll, PyData.depthAll]
    have : PyData.depth (.tuple ds) = PyData.depthAll ds + 1 := by rw [PyData.depth]
    omega
  · rw [PyData.weight, PyData.weightAll, PyData.weightAll, PyData.weightAll, PyData.weightAll]
    have : PyData.weight (.tuple ds) = PyData.weightAll ds := by rw [PyData.weight]
    omega
  · rw [PyData.intsShort, PyData.intsShortAll, PyData.intsShortAll, PyData.intsShortAll, PyData.intsShortAll, g1.its, gf.its, PyData.intsShort, its]
    rfl
  · rw [PyData.showable, PyData.showableAll, PyData.showableAll, PyData.showableAll, PyData.showableAll, g1.sho, gf.sho, PyData.showable, sho]
    rfl
mutual
theorem gd_bt {sg : List (Str × Nat)} (so : SigOk sg) : ∀ t : Bt, t.ok sg → t.fine → Gd (2 * t.sz + 3) (110 * t.sz - 1) t.data
  | .var x, ok, _ => by
    rw [Bt.ok] at ok
    rw [Bt.sz, Bt.data]
    have g : Gd (0 + 1) (2 * (4 + 1)) (.tuple [.str "var", .str x]) := by
     refine gd_tup (k := 0) (W := 4) (L := 2) (fun d hd => ?_) (Nat.le_refl 2)
     simp only [List.mem_cons, List.not_mem_nil, or_false] at hd
     rcases hd with e | e
     · rw [e]
       exact gd_strB (by decide) (by decide)
     · rw [e]
       exact gd_strB (vars_cps4 x ok).1 (vars_cps4 x ok).2
    exact g.mono (by decide) (by decide)
  | .deed f ts, ok, fi => by
    rw [Bt.ok] at ok
    rw [Bt.fine] at fi
    rw [Bt.sz, Bt.data]
    have nm := so.nm _ ok.1
    obtain ⟨a, b, c, d, e⟩ := gd_bts so ts ok.2 fi
    exact (gd_deed (gd_strB (name_cps nm) nm.l4) a b c d e).mono (by omega) (by omega)
  | .odd d, _, fi => by
    rw [Bt.fine] at fi
    rw [Bt.sz, Bt.data]
    exact fi.mono (by decide) (by decide)
theorem gd_bts {sg : List (Str × Nat)} (so : SigOk sg) : ∀ ts : List Bt, boks sg ts → bfines ts → PyData.canLayAll0 (bdatas ts) = true ∧ PyData.depthAll (bdatas ts) ≤ 2 * bszs ts + 3 ∧ PyData.weightAll (bdatas ts) ≤ 110 * bszs ts ∧ PyData.intsShortAll 13 (bdatas ts) = true ∧ PyData.showableAll (bdatas ts) = true
  | [], _, _ => by
    rw [bdatas, bszs]
    exact ⟨by rw [PyData.canLayAll0], by rw [PyData.depthAll]; exact Nat.zero_le _, by rw [PyData.weightAll]; exact Nat.zero_le _, by rw [PyData.intsShortAll], by rw [PyData.showableAll]⟩
  | t :: ts, ok, fi => by
    rw [boks] at ok
    rw [bfines] at fi
    have g := gd_bt so t ok.1 fi.1
    obtain ⟨a, b, c, d, e⟩ := gd_bts so ts ok.2 fi.2
    have z := bsz1 t
    have g2 := g.dep
    have g3 := g.wgt
    rw [bdatas, bszs]
    refine ⟨?_, ?_, ?_, ?_, ?_⟩
    · rw [PyData.canLayAll0, g.lay, a]
      rfl
    · rw [PyData.depthAll]
      omega
    · rw [PyData.weightAll]
      omega
    · rw [PyData.intsShortAll, g.its, d]
      rfl
    · rw [PyData.showableAll, g.sho, e]
      rfl
end
/-- a path of it -/
inductive BAt : List Nat → Bt → Bt → Prop where
  | here (t : Bt) : BAt [] t t
  | down {k : Nat} {p : List Nat} {f : Str} {ts : List Bt} {v u : Bt} (hk : ts[k]? = some v) (h : BAt p v u) : BAt (k :: p) (.deed f ts) u
mutual
theorem met_at : ∀ (t : Bt) (p : List Nat), ∀ e ∈ t.met p, ∃ q, e.1 = p ++ q ∧ BAt q t e.2
  | .var x, p, e, h => by
    rw [Bt.met, List.mem_singleton] at h
    subst h
    exact ⟨[], (List.append_nil p).symm, .here _⟩
  | .odd d, p, e, h => by
    rw [Bt.met, List.mem_singleton] at h
    subst h
    exact ⟨[], (List.append_nil p).symm, .here _⟩
  | .deed f ts, p, e, h => by
    rw [Bt.met] at h
    rcases List.mem_cons.mp h with z | z
    · subst z
      exact ⟨[], (List.append_nil p).symm, .here _⟩
    · obtain ⟨j, q, u, h1, h2, h3⟩ := mets_at ts p 0 e z
      rw [Nat.zero_add] at h1
      exact ⟨j :: q, h1, .down h2 h3⟩
theorem mets_at : ∀ (ts : List Bt) (p : List Nat) (k : Nat), ∀ e ∈ mets ts p k, ∃ (j : Nat) (q : List Nat) (u : Bt), e.1 = p ++ ((k + j) :: q) ∧ ts[j]? = some u ∧ BAt q u e.2
  | [], p, k, e, h => by
    rw [mets] at h
    cases h
  | t :: ts, p, k, e, h => by
    rw [mets] at h
    rcases List.mem_append.mp h with z | z
    · obtain ⟨q, h1, h2⟩ := met_at t (p ++ [k]) e z
      refine ⟨0, q, t, ?_, rfl, h2⟩
      rw [h1, List.append_assoc]
      rfl
    · obtain ⟨j, q, u, h1, h2, h3⟩ := mets_at ts p (k + 1) e z
      exact ⟨j + 1, q, u, by rw [h1, show k + 1 + j = k + (j + 1) by omega], h2, h3⟩
end
/-- another one laid there -/
def brep : List Nat → Bt → Bt → Bt
  | [], _, o => o
  | k :: p, .deed f ts, o => .deed f (ts.take k ++ ([brep p (ts[k]?.getD o) o] ++ ts.drop (k + 1)))
  | _ :: _, t, _ => t
theorem brep_down {k : Nat} {p : List Nat} {f : Str} {ts : List Bt} {v o : Bt} (h : ts[k]? = some v) : brep (k :: p) (.deed f ts) o = .deed f (ts.take k ++ ([brep p v o] ++ ts.drop (k + 1))) := by
  rw [brep, h]
  rfl
theorem boks_app {sg : List (Str × Nat)} : ∀ {a b : List Bt}, boks sg (a ++ b) ↔ boks sg a ∧ boks sg b
  | [], b => by
    rw [boks, List.nil_append]
    exact ⟨fun h => ⟨trivial, h⟩, fun h => h.2⟩
  | t :: a, b => by
    rw [List.cons_append, boks, boks, boks_app (a := a)]
    exact ⟨fun ⟨x, y, z⟩ => ⟨⟨x, y⟩, z⟩, fun ⟨⟨x, y⟩, z⟩ => ⟨x, y, z⟩⟩
theorem bfines_app : ∀ {a b : List Bt}, bfines (a ++ b) ↔ bfines a ∧ bfines b
  | [], b => by
    rw [bfines, List.nil_append]
    exact ⟨fun h => ⟨trivial, h⟩, fun h => h.2⟩
  | t :: a, b => by
    rw [List.cons_append, bfines, bfines, bfines_app (a := a)]
    exact ⟨fun ⟨x, y, z⟩ => ⟨⟨x, y⟩, z⟩, fun ⟨⟨x, y⟩, z⟩ => ⟨x, y, z⟩⟩
theorem bt_split {ts : List Bt} {k : Nat} {v : Bt} (h : ts[k]? = some v) : ts = ts.take k ++ ([v] ++ ts.drop (k + 1)) := by
  have il := (List.getElem?_eq_some_iff.mp h).1
  have e := (List.getElem?_eq_some_iff.mp h).2
  have := List.drop_eq_getElem_cons il
  rw [e] at this
  rw [List.singleton_append, ← this, List.take_append_drop]
theorem brep_all {sg : List (Str × Nat)} {o : Bt} (oo : o.ok sg) (fo : o.fine) : ∀ {p : List Nat} {t u : Bt}, BAt p t u → t.ok sg → t.fine → (brep p t o).ok sg ∧ (brep p t o).fine ∧ (brep p t o).sz + u.sz = t.sz + o.sz := by
  intro p t u h
  induction h with
  | here t => exact fun _ _ => ⟨oo, fo, by rw [brep, Nat.add_comm]⟩
  | @down k p f ts v u hk h ih =>
    intro ok fi
    rw [Bt.ok] at ok
    rw [Bt.fine] at fi
    have sp := bt_split hk
    have o2 := ok.2
    have z2 : bszs ts = bszs (ts.take k ++ ([v] ++ ts.drop (k + 1))) := by rw [← sp]
    rw [sp, boks_app, boks_app] at o2
    rw [sp, bfines_app, bfines_app] at fi
    have il := (List.getElem?_eq_some_iff.mp hk).1
    obtain ⟨a, b, c⟩ := ih (by have := o2.2.1; rw [boks] at this; exact this.1) (by have := fi.2.1; rw [bfines] at this; exact this.1)
    rw [brep_down hk, Bt.ok, Bt.fine, Bt.sz, Bt.sz, boks_app, boks_app, bfines_app, bfines_app, bszs_app, bszs_app, boks, boks, bfines, bfines]
    rw [bszs_app, bszs_app] at z2
    refine ⟨⟨?_, o2.1, ⟨a, trivial⟩, o2.2.2⟩, ⟨fi.1, ⟨b, trivial⟩, fi.2.2⟩, ?_⟩
    · have : (ts.take k ++ ([brep p v o] ++ ts.drop (k + 1))).length = ts.length := by
        rw [List.length_append, List.length_append, List.length_take, List.length_drop]
        show _ + (1 + _) = _
        omega
      rw [this]
      exact ok.1
    · have e1 : bszs [brep p v o] = (brep p v o).sz := by rw [bszs, bszs]; omega
      have e2 : bszs [v] = v.sz := by rw [bszs, bszs]; omega
      omega
section
variable {P : Program} {w : World} {K : PySem.W.Frag} {mg : Str → Option Value} {base : Heap} {σ : L2.St} {H H' : Hp} {va p c : Addr} {n : Nat} {sg : List (Str × Nat)}
mutual
theorem BtV.dp : ∀ {t : Bt} {v : V}, BtV K H sg t v → Dp K H v t.data
  | .var x, v, h => by
    rw [BtV] at h
    obtain ⟨a, rfl, s⟩ := h
    rw [Bt.data]
    exact .tup s (.cons (.str _) (.cons (.str _) .nil))
  | .deed f ts, v, h => by
    rw [BtV] at h
    obtain ⟨a, b, us, rfl, s, s2, r⟩ := h
    rw [Bt.data]
    exact .tup s (.cons (.str _) (.cons (.str _) (.cons (.tup s2 (BtsV.dp r)) .nil)))
  | .odd d, v, h => by
    rw [BtV] at h
    rw [Bt.data]
    exact h.1.dp
theorem BtsV.dp : ∀ {ts : List Bt} {vs : List V}, BtsV K H sg ts vs → DpAll K H vs (bdatas ts)
  | [], vs, h => by
    rw [BtsV] at h
    rw [h, bdatas]
    exact .nil
  | t :: ts, vs, h => by
    rw [BtsV] at h
    obtain ⟨v, us, rfl, a, b⟩ := h
    rw [bdatas]
    exact .cons (BtV.dp a) (BtsV.dp b)
end
theorem far_ne {a : Addr} {xs : List V} (pu : Pur H p c n) (h : H a = some (.lst xs)) (far : FarL H xs) : a ≠ p ∧ a ≠ c := by
  obtain ⟨hp, cs, cne, _, hc⟩ := pu
  constructor
  · intro e
    rw [e, hp] at h
    injection h with h
    injection h with h
    subst h
    rcases far with far | ⟨x, r, q, far⟩
    · cases far
    · injection q with q1 q2
      subst q1
      rcases far with ⟨s, z⟩ | ⟨b, ys, z, hb⟩
      · cases z
      · cases z
        rw [hc] at hb
        cases hb
  · intro e
    rw [e, hc] at h
    injection h with h
    injection h with h
    subst h
    cases cs with
    | nil => exact cne rfl
    | cons i cs =>
      rcases far with far | ⟨x, r, q, far⟩
      · cases far
      · injection q with q1 q2
        subst q1
        rcases far with ⟨s, z⟩ | ⟨b, ys, z, hb⟩ <;> cases z
theorem FarL.off {xs : List V} (pu : Pur H p c n) (o : Off H H' p c) (h : FarL H xs) : FarL H' xs := h.imp id fun ⟨x, r, q, z⟩ => ⟨x, r, q, z.imp id fun ⟨b, ys, q, s⟩ => ⟨b, ys, q, o _ _ (fun e => by
  rw [e, pu.1] at s
  cases s) (fun e => by
  obtain ⟨_, cs, _, _, hc⟩ := pu
  rw [e, hc] at s
  cases s) s⟩⟩
mutual
theorem dp_off (pu : Pur H p c n) (o : Off H H' p c) : ∀ {v : V} {d : PyData}, Dp K H v d → noL d = true → Dp K H' v d
  | _, _, .non, _ => .non
  | _, _, .bl b, _ => .bl b
  | _, _, .int i, _ => .int i
  | _, _, .str x, _ => .str x
  | _, _, .lst _ _, h => by
    rw [noL] at h
    cases h
  | _, _, .tup s r, h => by
    rw [noL] at h
    exact .tup (o.et pu _ _ s) (dps_off pu o r h)
theorem dps_off (pu : Pur H p c n) (o : Off H H' p c) : ∀ {vs : List V} {ds : List PyData}, DpAll K H vs ds → noLs ds = true → DpAll K H' vs ds
  | _, _, .nil, _ => .nil
  | _, _, .cons a b, h => by
    rw [noLs, Bool.and_eq_true] at h
    exact .cons (dp_off pu o a h.1) (dps_off pu o b h.2)
end
theorem Dq.off {v : V} {d : PyData} (pu : Pur H p c n) (o : Off H H' p c) (h : Dq K H v d) : Dq K H' v d := by
  cases h with
  | fl h nl => exact .fl (dp_off pu o h nl) nl
  | lst h hd nl far => exact .lst (o _ _ (far_ne pu h far).1 (far_ne pu h far).2 h) (dps_off pu o hd nl) nl (far.off pu o)
  | deed h0 h hd nl far => exact .deed (o.et pu _ _ h0) (o _ _ (far_ne pu h far).1 (far_ne pu h far).2 h) (dps_off pu o hd nl) nl (far.off pu o)
theorem NoTu.off {v : V} (pu : Pur H p c n) (o : Off H H' p c) (h : NoTu H v) : NoTu H' v := by
  cases h with
  | non => exact .non
  | int i => exact .int i
  | bl b => exact .bl b
  | str z => exact .str z
  | lst h far => exact .lst (o _ _ (far_ne pu h far).1 (far_ne pu h far).2 h) (far.off pu o)
theorem NoStr.off {v : V} (pu : Pur H p c n) (o : Off H H' p c) (h : NoStr K H v) : NoStr K H' v := by
  cases h with
  | non => exact .non
  | int i => exact .int i
  | tup h => exact .tup (o.et pu _ _ h)
theorem NF.off {v : V} (pu : Pur H p c n) (o : Off H H' p c) (h : NF K H sg v) : NF K H' sg v := by
  have e : ET K H H' := o.et pu
  cases h with
  | tup h => exact .tup (h.off pu o)
  | len h h2 h3 => exact .len (e _ _ h) h2 h3
  | two h ne => exact .two (e _ _ h) ne
  | letter h fl no => exact .letter (e _ _ h) fl no
  | three h ne => exact .three (e _ _ h) ne
  | name h no => exact .name (e _ _ h) (no.off pu o)
  | terms h no => exact .terms (e _ _ h) (no.off pu o)
  | many h h2 no sk => exact .many (e _ _ h) (e _ _ h2) no sk
mutual
theorem BtV.off (pu : Pur H p c n) (o : Off H H' p c) : ∀ {t : Bt} {v : V}, BtV K H sg t v → BtV K H' sg t v
  | .var x, v, h => by
    rw [BtV] at h ⊢
    obtain ⟨a, q, s⟩ := h
    exact ⟨a, q, o.et pu _ _ s⟩
  | .deed f ts, v, h => by
    rw [BtV] at h ⊢
    obtain ⟨a, b, vs, q, s, s2, r⟩ := h
    exact ⟨a, b, vs, q, o.et pu _ _ s, o.et pu _ _ s2, BtsV.off pu o r⟩
  | .odd d, v, h => by
    rw [BtV] at h ⊢
    exact ⟨h.1.off pu o, h.2.off pu o⟩
theorem BtsV.off (pu : Pur H p c n) (o : Off H H' p c) : ∀ {ts : List Bt} {vs : List V}, BtsV K H sg ts vs → BtsV K H' sg ts vs
  | [], vs, h => by
    rw [BtsV] at h ⊢
    exact h
  | t :: ts, vs, h => by
    rw [BtsV] at h ⊢
    obtain ⟨v, us, q, a, b⟩ := h
    exact ⟨v, us, q, BtV.off pu o a, BtsV.off pu o b⟩
end
theorem btv_var {a : Addr} {x : Str} (h : SqT K H a [.str "var", .str x]) : BtV K H sg (.var x) (.ref a) := by
  rw [BtV]
  exact ⟨a, rfl, h⟩
theorem btv_deed {a b : Addr} {f : Str} {ts : List Bt} {us : List V} (h : SqT K H a [.str "deed", .str f, .ref b]) (h2 : SqT K H b us) (h3 : BtsV K H sg ts us) : BtV K H sg (.deed f ts) (.ref a) := by
  rw [BtV]
  exact ⟨a, b, us, rfl, h, h2, h3⟩
theorem BtsV.app : ∀ {a b : List Bt} {us vs : List V}, BtsV K H sg a us → BtsV K H sg b vs → BtsV K H sg (a ++ b) (us ++ vs)
  | [], b, us, vs, h1, h2 => by
    rw [BtsV] at h1
    subst h1
    exact h2
  | t :: a, b, us, vs, h1, h2 => by
    rw [BtsV] at h1
    obtain ⟨v, ws, rfl, x, y⟩ := h1
    rw [List.cons_append, List.cons_append, BtsV]
    exact ⟨v, _, rfl, x, BtsV.app y h2⟩
theorem BtsV.one {t : Bt} {v : V} (h : BtV K H sg t v) : BtsV K H sg [t] [v] := by
  rw [BtsV]
  exact ⟨v, [], rfl, h, by rw [BtsV]⟩
theorem BtsV.nil : BtsV K H sg [] [] := by rw [BtsV]
theorem BtsV.take : ∀ {ts : List Bt} {us : List V} (k : Nat), BtsV K H sg ts us → BtsV K H sg (ts.take k) (us.take k)
  | [], us, k, h => by
    rw [BtsV] at h
    subst h
    rw [List.take_nil, List.take_nil]
    exact BtsV.nil
  | t :: ts, us, 0, h => BtsV.nil
  | t :: ts, us, k + 1, h => by
    rw [BtsV] at h
    obtain ⟨v, ws, rfl, x, y⟩ := h
    rw [List.take_succ_cons, List.take_succ_cons, BtsV]
    exact ⟨v, _, rfl, x, BtsV.take k y⟩
theorem BtsV.drop : ∀ {ts : List Bt} {us : List V} (k : Nat), BtsV K H sg ts us → BtsV K H sg (ts.drop k) (us.drop k)
  | [], us, k, h => by
    rw [BtsV] at h
    subst h
    rw [List.drop_nil, List.drop_nil]
    exact BtsV.nil
  | t :: ts, us, 0, h => h
  | t :: ts, us, k + 1, h => by
    rw [BtsV] at h
    obtain ⟨v, ws, rfl, x, y⟩ := h
    exact BtsV.drop k y
end
mutual
def Tm.bt : Tm → Bt
  | .var x => .var x
  | .deed f ts => .deed f (bts ts)
def bts : List Tm → List Bt
  | [] => []
  | t :: ts => t.bt :: bts ts
end
theorem bts_len : ∀ ts : List Tm, (bts ts).length = ts.length
  | [] => by rw [bts]; rfl
  | t :: ts => by rw [bts, List.length_cons, bts_len ts, List.length_cons]
mutual
theorem bt_all {K : PySem.W.Frag} {H : Hp} {sg : List (Str × Nat)} : ∀ (t : Tm) {v : V}, TmV K H t v → t.ok sg → BtV K H sg t.bt v ∧ t.bt.ok sg ∧ t.bt.fine ∧ t.bt.sz = t.sz
  | .var x, v, h, ok => by
    rw [TmV] at h
    rw [Tm.ok] at ok
    rw [Tm.bt, BtV, Bt.ok, Bt.fine, Bt.sz, Tm.sz]
    exact ⟨h, ok, trivial, rfl⟩
  | .deed f ts, v, h, ok => by
    rw [TmV] at h
    rw [Tm.ok] at ok
    obtain ⟨a, b, us, q, s, s2, r⟩ := h
    obtain ⟨x, y, z, u⟩ := bts_all ts r ok.2
    rw [Tm.bt, BtV, Bt.ok, Bt.fine, Bt.sz, Tm.sz, bts_len, u]
    exact ⟨⟨a, b, us, q, s, s2, x⟩, ⟨ok.1, y⟩, z, rfl⟩
theorem bts_all {K : PySem.W.Frag} {H : Hp} {sg : List (Str × Nat)} : ∀ (ts : List Tm) {vs : List V}, TmsV K H ts vs → oks sg ts → BtsV K H sg (bts ts) vs ∧ boks sg (bts ts) ∧ bfines (bts ts) ∧ bszs (bts ts) = szs ts
  | [], vs, h, ok => by
    rw [TmsV] at h
    rw [bts, BtsV, boks, bfines, bszs, szs]
    exact ⟨h, trivial, trivial, rfl⟩
  | t :: ts, vs, h, ok => by
    rw [TmsV] at h
    rw [oks] at ok
    obtain ⟨v, us, q, a, b⟩ := h
    obtain ⟨x, y, z, u⟩ := bt_all t a ok.1
    obtain ⟨x2, y2, z2, u2⟩ := bts_all ts b ok.2
    rw [bts, BtsV, boks, bfines, bszs, szs, u, u2]
    exact ⟨⟨v, us, q, x, x2⟩, ⟨y, y2⟩, ⟨z, z2⟩, rfl⟩
end
end K02
end
section
namespace K02
open PySem PySem.Spec PyProof.Rows L2 Evl RZ Dw M20
section
variable {P : Program} {w : World} {K : PySem.W.Frag} {mg : Str → Option Value} {base : Heap} {σ : L2.St} {H H' : Hp} {va p c : Addr} {n : Nat} {sg : List (Str × Nat)}
/-! bent things as they are built -/
theorem ep_bvar {te : TE} {x : Str} (h : Ev te σ H (.str x)) : EvP (tTup (tCons (tC (.str "var")) (tCons te tNil))) σ H (fun v H' => BtV K H' sg (.var x) v) := fun H1 e Q q => eu_tup (ea_cons ev_c (ea_cons h ea_nil)) (by show 2 ≤ 100000; decide) H1 e _ fun p H2 _ e2 hp => q _ H2 e2 (btv_var (st_of hp))
def EvBs (K : PySem.W.Frag) (sg : List (Str × Nat)) (ta : TA) (σ : L2.St) (H : Hp) (ts : List Bt) : Prop := ∀ H1, Ex H H1 → ∀ Q : List V → Hp → Prop, (∀ vs H2, Ex H1 H2 → BtsV K H2 sg ts vs → Q vs H2) → ta σ H1 Q
theorem ebs_nil : EvBs K sg tNil σ H [] := fun H1 _ Q q => q [] H1 (Ex.refl _) BtsV.nil
theorem ebs_cons {te : TE} {tr : TA} {t : Bt} {ts : List Bt} (h : EvP te σ H fun v H' => BtV K H' sg t v) (hr : EvBs K sg tr σ H ts) : EvBs K sg (tCons te tr) σ H (t :: ts) := fun H1 e Q q => do_cons (h H1 e _ fun v H2 e2 hv => hr H2 (e.trans e2) _ fun vs H3 e3 hvs => q _ H3 (e2.trans e3) (by rw [BtsV]; exact ⟨v, vs, rfl, hv.ex e3, hvs⟩))
def TpB (K : PySem.W.Frag) (sg : List (Str × Nat)) (ts : List Bt) (v : V) (H : Hp) : Prop := ∃ a vs, v = .ref a ∧ SqT K H a vs ∧ BtsV K H sg ts vs
theorem TpB.ex {ts : List Bt} {v : V} (e : Ex H H') (h : TpB K sg ts v H) : TpB K sg ts v H' := let ⟨a, vs, q, s, r⟩ := h; ⟨a, vs, q, ex_t e s, r.ex e⟩
theorem ep_btup {ta : TA} {ts : List Bt} (h : EvBs K sg ta σ H ts) (l : ts.length ≤ 1000) : EvP (tTup ta) σ H (TpB K sg ts) := fun H1 e Q q => do_tup (h H1 e _ fun vs H2 e2 hv => ⟨sz_of (by rw [hv.len]; omega), fun p np => q _ _ (e2.trans (Ex.new np)) ⟨p, vs, rfl, st_of upd_same, hv.ex (Ex.new np)⟩⟩)
theorem ep_bdeed {tn ti : TE} {f : Str} {ts : List Bt} (hn : Ev tn σ H (.str f)) (hi : EvP ti σ H (TpB K sg ts)) : EvP (tTup (tCons (tC (.str "deed")) (tCons tn (tCons ti tNil)))) σ H (fun v H' => BtV K H' sg (.deed f ts) v) := fun H1 e Q q =>
  do_tup (do_cons (do_ev ev_c fun H2 e2 => do_cons (hn H2 (e.trans e2) _ fun H3 e3 => do_cons (hi H3 ((e.trans e2).trans e3) _ fun v H4 e4 hv => do_nil ⟨by show 3 ≤ sizeLine; decide, fun p np => by
    obtain ⟨a, vs, rfl, s, r⟩ := hv
    exact q _ _ (((e2.trans e3).trans e4).trans (Ex.new np)) (btv_deed (st_of upd_same) (ex_t (Ex.new np) s) (r.ex (Ex.new np)))⟩))))
theorem ep_ix2 {tA tB tk : TE} {i : Nat} {PA PB : V → Hp → Prop} (hA : EvP tA σ H PA) (hB : EvP tB σ H PB) (hk : ∀ H1, Ex H H1 → Ev tk σ H1 (vi i)) (hi : i < 2) (eA : ∀ v H1 H2, Ex H1 H2 → PA v H1 → PA v H2) (eB : ∀ v H1 H2, Ex H1 H2 → PB v H1 → PB v H2) :
    EvP (tOp (rIxL K) (tLst (tCons tA (tCons tB tNil))) tk) σ H (fun v H' => (i = 0 → PA v H') ∧ (i = 1 → PB v H')) := fun H1 e Q q =>
  do_op (do_lst (do_cons (hA H1 e _ fun x H2 e2 hx => do_cons (hB H2 (e.trans e2) _ fun y H3 e3 hy => do_nil ⟨by show 2 ≤ sizeLine; decide, fun l nl => do_ev (hk _ (((e.trans e2).trans e3).trans (Ex.new nl))) fun H4 e4 => by
    have x34 : Ex H3 H4 := (Ex.new nl).trans e4
    have at0 : SqL K H4 l [x, y] := sq_of (e4 _ _ upd_same)
    have i2 : i = 0 ∨ i = 1 := by omega
    rcases i2 with i0 | i1
    · subst i0
      exact ⟨l, _, _, x, rfl, rfl, at0, rfl, q x H4 ((e2.trans e3).trans x34) ⟨fun _ => eA _ _ _ (e3.trans x34) hx, fun z => by cases z⟩⟩
    · subst i1
      exact ⟨l, _, _, y, rfl, rfl, at0, rfl, q y H4 ((e2.trans e3).trans x34) ⟨fun z => (by cases z), fun _ => eB _ _ _ x34 hy⟩⟩⟩))))
/-! long ones -/
def sizB (f : Str) : Nat → Bt
  | 0 => .var ("x" : Str)
  | n + 1 => .deed f [sizB f n]
def comB (f : Str) : Nat → Bt
  | 0 => .var ("x" : Str)
  | k + 1 => .deed f (if k % 2 = 0 then [comB f k, .var ("y" : Str)] else [.var ("u" : Str), comB f k])
theorem sizB_all {f : Str} (h : (f, 1) ∈ sg) : ∀ n, (sizB f n).ok sg ∧ (sizB f n).fine ∧ (sizB f n).sz = n + 1
  | 0 => by
    rw [sizB, Bt.ok, Bt.fine, Bt.sz]
    exact ⟨by decide, trivial, rfl⟩
  | n + 1 => by
    obtain ⟨a, b, c⟩ := sizB_all h n
    rw [sizB, Bt.ok, Bt.fine, Bt.sz, boks, boks, bfines, bfines, bszs, bszs]
    exact ⟨⟨h, a, trivial⟩, ⟨b, trivial⟩, by omega⟩
theorem comB_all {f : Str} (h : (f, 2) ∈ sg) : ∀ n, (comB f n).ok sg ∧ (comB f n).fine ∧ (comB f n).sz = 2 * n + 1
  | 0 => by
    rw [comB, Bt.ok, Bt.fine, Bt.sz]
    exact ⟨by decide, trivial, rfl⟩
  | n + 1 => by
    obtain ⟨a, b, c⟩ := comB_all h n
    have v1 : (Bt.var ("y" : Str)).ok sg := by rw [Bt.ok]; decide
    have v2 : (Bt.var ("u" : Str)).ok sg := by rw [Bt.ok]; decide
    have s1 : (Bt.var ("y" : Str)).sz = 1 := by rw [Bt.sz]
    have s2 : (Bt.var ("u" : Str)).sz = 1 := by rw [Bt.sz]
    have f1 : (Bt.var ("y" : Str)).fine := by rw [Bt.fine]; trivial
    have f2 : (Bt.var ("u" : Str)).fine := by rw [Bt.fine]; trivial
    rw [comB, Bt.ok, Bt.fine, Bt.sz]
    by_cases z : n % 2 = 0
    · rw [if_pos z, boks, boks, boks, bfines, bfines, bfines, bszs, bszs, bszs]
      exact ⟨⟨h, a, v1, trivial⟩, ⟨b, f1, trivial⟩, by omega⟩
    · rw [if_neg z, boks, boks, boks, bfines, bfines, bfines, bszs, bszs, bszs]
      exact ⟨⟨h, v2, a, trivial⟩, ⟨f2, b, trivial⟩, by omega⟩
def sp_sized (K : PySem.W.Frag) : Sp := spX (fun (q : List (Str × Nat) × Str × Nat) vs _ => vs = [vi q.2.2, .str q.2.1] ∧ 1 ≤ q.2.2 ∧ q.2.2 ≤ 61) (fun q v H => BtV K H q.1 (sizB q.2.1 (q.2.2 - 1)) v)
theorem c_sized (T : Txt mg) (D : Df K mg "_law_sized" s__law_sized ["_law_many", "_law_name"]) : Cl P w K mg base 1 "_law_sized" (sp_sized K) := by
  refine cl_of (k := 0) D sc__law_sized (fun vs H Q E h => ?_) (fun f cdv A outer s H vs Q E hr h => ?_)
  · obtain ⟨q, ⟨rfl, _⟩, _⟩ := h
    rfl
  · obtain ⟨⟨sg, f, n⟩, ⟨rfl, n1, n61⟩, q⟩ := h
    refine ⟨_, (pss_cons (ps_set (i := 2) sc__law_sized.nd rfl (.inl rfl) (pe_tup (pa_cons pe_str (pa_cons pe_str pa_nil))))
      (pss_cons (ps_for PassesOwn.never (by rfl) (pi_range1 (by rfl) T.z_range (pa_cons (pe_op op_sub (pv 0) pe_int) pa_nil)) (pg_name (i := 3) sc__law_sized.nd rfl (.inl rfl))
        (pss_one (ps_set (i := 2) sc__law_sized.nd rfl (.inl rfl) (pe_tup (pa_cons pe_str (pa_cons (pv 1) (pa_cons (pe_tup (pa_cons (pv 2) pa_nil)) pa_nil)))))))
      (pss_one (ps_ret (pv 2))))), ?_⟩
    replace n1 : 1 ≤ n := n1
    replace n61 : n ≤ 61 := n61
    replace q : ∀ r H', Ex H H' → BtV K H' sg (sizB f (n - 1)) r → Q r H' := q
    refine q_asgP (ep_bvar (K := K) (sg := sg) (x := "x") ev_c) fun xv H3 e3 hx => ?_
    show tSeq _ _ _ [some (vi n), some (.str f), some xv, none] H3
    refine q_forR1 (n := ((n - 1 : Nat) : Int)) (ea_cons (ev_subM (a := n) (b := 1) (ev_var rfl) ev_c n1) ea_nil) ⟨by omega, by omega⟩ (fun j σ' H' => Ex H3 H' ∧ ∃ (ov : V) (y : Option V), BtV K H' sg (sizB f j) ov ∧ σ' = [some (vi n), some (.str f), some ov, y])
      (fun H4 e4 => ⟨e4, _, none, by rw [sizB]; exact hx.ex e4, rfl⟩) (fun j σ' H4 hj hP => ?_) (fun σ' H4 hP => ?_)
    · obtain ⟨e4, ov, y, hv, hσ⟩ := hP
      subst hσ
      show tAsg _ _ _ [some (vi n), some (.str f), some ov, some (vi j)] H4
      refine s_asgP (ep_bdeed (K := K) (sg := sg) (f := f) (ts := [sizB f j]) (ev_var rfl) (ep_btup (ebs_cons (ep_ev (ev_var rfl) fun H' e' => hv.ex e') ebs_nil) (by show 1 ≤ 1000; decide))) fun v H5 e5 h5 => ?_
      exact ⟨e4.trans e5, v, _, by rw [sizB]; exact h5, rfl⟩
    · obtain ⟨e4, ov, y, hv, hσ⟩ := hP
      subst hσ
      rw [Int.toNat_natCast] at hv
      exact s_ret (ev_var rfl) fun H5 e5 => q _ H5 ((e3.trans e4).trans e5) (hv.ex e5)
def sp_combed (K : PySem.W.Frag) : Sp := spX (fun (q : List (Str × Nat) × Str × Nat) vs _ => vs = [vi q.2.2, .str q.2.1] ∧ 1 ≤ q.2.2 ∧ q.2.2 ≤ 61) (fun q v H => BtV K H q.1 (comB q.2.1 (q.2.2 / 2)) v)
theorem c_combed (T : Txt mg) (D : Df K mg "_law_combed" s__law_combed ["_law_many", "_law_name"]) : Cl P w K mg base 1 "_law_combed" (sp_combed K) := by
  refine cl_of (k := 0) D sc__law_combed (fun vs H Q E h => ?_) (fun f cdv A outer s H vs Q E hr h => ?_)
  · obtain ⟨q, ⟨rfl, _⟩, _⟩ := h
    rfl
  · obtain ⟨⟨sg, f, n⟩, ⟨rfl, n1, n61⟩, q⟩ := h
    refine ⟨_, (pss_cons (ps_set (i := 2) sc__law_combed.nd rfl (.inl rfl) (pe_tup (pa_cons pe_str (pa_cons pe_str pa_nil))))
      (pss_cons (ps_for PassesOwn.never (by rfl) (pi_range1 (by rfl) T.z_range (pa_cons (pe_op op_fdiv (pv 0) pe_int) pa_nil)) (pg_name (i := 3) sc__law_combed.nd rfl (.inl rfl))
        (pss_one (ps_set (i := 2) sc__law_combed.nd rfl (.inl rfl) (pe_tup (pa_cons pe_str (pa_cons (pv 1) (pa_cons (pe_ix ix_list (pe_lst (pa_cons (pe_tup (pa_cons (pv 2) (pa_cons (pe_tup (pa_cons pe_str (pa_cons pe_str pa_nil))) pa_nil))) (pa_cons (pe_tup (pa_cons (pe_tup (pa_cons pe_str (pa_cons pe_str pa_nil))) (pa_cons (pv 2) pa_nil))) pa_nil))) (pe_op op_mod (pv 3) pe_int) (fun _ _ => rfl)) pa_nil)))))))
      (pss_one (ps_ret (pv 2))))), ?_⟩
    replace n1 : 1 ≤ n := n1
    replace n61 : n ≤ 61 := n61
    replace q : ∀ r H', Ex H H' → BtV K H' sg (comB f (n / 2)) r → Q r H' := q
    refine q_asgP (ep_bvar (K := K) (sg := sg) (x := "x") ev_c) fun xv H3 e3 hx => ?_
    show tSeq _ _ _ [some (vi n), some (.str f), some xv, none] H3
    have half : n / 2 ≤ 30 := by omega
    refine q_forR1 (n := ((n / 2 : Nat) : Int)) (ea_cons (ev_divM (a := n) (b := 2) (ev_var rfl) ev_c (by decide) (by decide)) ea_nil) ⟨by omega, by omega⟩ (fun j σ' H' => Ex H3 H' ∧ ∃ (ov : V) (y : Option V), BtV K H' sg (comB f j) ov ∧ σ' = [some (vi n), some (.str f), some ov, y])
      (fun H4 e4 => ⟨e4, _, none, by rw [comB]; exact hx.ex e4, rfl⟩) (fun j σ' H4 hj hP => ?_) (fun σ' H4 hP => ?_)
    · obtain ⟨e4, ov, y, hv, hσ⟩ := hP
      subst hσ
      show tAsg _ _ _ [some (vi n), some (.str f), some ov, some (vi j)] H4
      have pv : EvP (tVar 2) [some (vi n), some (.str f), some ov, some (vi j)] H4 (fun v H' => BtV K H' sg (comB f j) v) := ep_ev (ev_var rfl) fun H' e' => hv.ex e'
      have two := ep_ix2 (K := K) (i := j % 2) (tk := tOp (rI (fun _ j => 0 < j) fun i j => .int (i % j)) (tVar 3) (tC (vi 2))) (ep_btup (ebs_cons pv (ebs_cons (ep_bvar (K := K) (sg := sg) (x := "y") ev_c) ebs_nil)) (by show 2 ≤ 1000; decide)) (ep_btup (ebs_cons (ep_bvar (K := K) (sg := sg) (x := "u") ev_c) (ebs_cons pv ebs_nil)) (by show 2 ≤ 1000; decide)) (fun H1 _ => ev_modM (a := j) (b := 2) (ev_var rfl) ev_c (by decide)) (by omega) (fun _ _ _ e h => h.ex e) (fun _ _ _ e h => h.ex e)
      have two2 := two.imp (P' := TpB K sg (if j % 2 = 0 then [comB f j, .var ("y" : Str)] else [.var ("u" : Str), comB f j])) fun v H' _ h => by
        by_cases z : j % 2 = 0
        · rw [if_pos z]
          exact h.1 z
        · rw [if_neg z]
          exact h.2 (by omega)
      refine s_asgP (ep_bdeed (K := K) (sg := sg) (f := f) (ev_var rfl) two2) fun v H5 e5 h5 => ?_
      exact ⟨e4.trans e5, v, _, by rw [comB]; exact h5, rfl⟩
    · obtain ⟨e4, ov, y, hv, hσ⟩ := hP
      subst hσ
      rw [Int.toNat_natCast] at hv
      exact s_ret (ev_var rfl) fun H5 e5 => q _ H5 ((e3.trans e4).trans e5) (hv.ex e5)
/-! another one laid -/
structure LQ where
  sg : List (Str × Nat)
  t : Bt
  p : List Nat
  u : Bt
  o : Bt
def sp_laidB (K : PySem.W.Frag) (n : Nat) : Sp := spX (fun (q : LQ) vs H => (∃ v a u, vs = [v, .ref a, u] ∧ BtV K H q.sg q.t v ∧ SqT K H a (q.p.map vi) ∧ BtV K H q.sg q.o u) ∧ BAt q.p q.t q.u ∧ q.p.length < n ∧ q.t.sz ≤ 100) (fun q v H => BtV K H q.sg (brep q.p q.t q.o) v)
theorem c_laidB (T : Txt mg) (D : Df K mg "_law_laid" s__law_laid ["_law_piece", "_law_path", "_law_bit"]) : ∀ n : Nat, Cl P w K mg base (n + 1) "_law_laid" (sp_laidB K n) := by
  intro n
  induction n with
  | zero =>
    refine cl_of (k := 0) D sc__law_laid (fun vs H Q E h => ?_) (fun f cdv A outer s H vs Q E hr h => ?_)
    · obtain ⟨q, ⟨⟨v, a, u, rfl, _⟩, _⟩, _⟩ := h
      rfl
    · obtain ⟨_, ⟨_, _, lp, _⟩, _⟩ := h
      exact absurd lp (Nat.not_lt_zero _)
  | succ n ih =>
    have c_laid := ih
    refine cl_of (k := n + 1) D sc__law_laid (fun vs H Q E h => ?_) (fun f cdv A outer s H vs Q E hr h => ?_)
    · obtain ⟨q, ⟨⟨v, a, u, rfl, _⟩, _⟩, _⟩ := h
      rfl
    · obtain ⟨⟨sg, t, p, u, o⟩, ⟨⟨v, a, ov, rfl, tv, hp, tO⟩, hs, lp, big⟩, q⟩ := h
      refine ⟨_, (pss_cons (ps_if (pt_cmpR (op_eqD hr.units) (pv 1) (pe_tup pa_nil) (nomark _))
        (pss_one (ps_ret (pv 2)))
        pss_nil)
      (pss_cons (ps_set (i := 3) sc__law_laid.nd rfl (.inl rfl) (pe_ix ix_tup (pv 0) pe_int (fun _ _ => rfl)))
      (pss_cons (ps_set (i := 4) sc__law_laid.nd rfl (.inl rfl) (pe_ix ix_tup (pv 1) pe_int (fun _ _ => rfl)))
      (pss_one (ps_ret (pe_tup (pa_cons (pe_ix ix_tup (pv 0) pe_int (fun _ _ => rfl)) (pa_cons (pe_ix ix_tup (pv 0) pe_int (fun _ _ => rfl)) (pa_cons (pe_op op_catA (pe_op op_catA (pe_slice sl_tupA (pv 3) po_none (po_some (pv 4))) (pe_tup (pa_cons (pe_cl c_laid hr (by first | decide | omega) (by rfl) (pa_cons (pe_ix ix_tup (pv 3) (pv 4) (fun _ _ => rfl)) (pa_cons (pe_slice sl_tupA (pv 1) (po_some pe_int) po_none) (pa_cons (pv 2) pa_nil)))) pa_nil))) (pe_slice sl_tupA (pv 3) (po_some (pe_op op_add (pv 4) pe_int)) po_none)) pa_nil))))))))), ?_⟩
      replace tv : BtV K H sg t v := tv
      replace hp : SqT K H a (p.map vi) := hp
      replace tO : BtV K H sg o ov := tO
      replace hs : BAt p t u := hs
      replace lp : p.length < n + 1 := lp
      replace big : t.sz ≤ 100 := big
      replace q : ∀ r H', Ex H H' → BtV K H' sg (brep p t o) r → Q r H' := q
      cases hs with
      | here t => exact q_when (b := true) (ev_path0 (K := K) (p := []) (ev_var rfl) hp) (fun _ H1 e1 => s_ret (ev_var rfl) fun H2 e2 => q _ H2 (e1.trans e2) (by rw [brep]; exact tO.ex (e1.trans e2))) (fun hb => by cases hb)
      | @down k p f1 ts v' u hk h2 =>
        refine q_when (b := false) (ev_path0 (K := K) (p := k :: p) (ev_var rfl) hp) (fun hb => by cases hb) (fun _ H1 e1 => ?_)
        have tv1 := tv.ex e1
        rw [BtV] at tv1
        obtain ⟨a1, b1, vs1, rfl, g1, g2, tms1⟩ := tv1
        have kl : k < ts.length := (List.getElem?_eq_some_iff.mp hk).1
        have lvs := tms1.len
        rw [Bt.sz] at big
        have few : ts.length ≤ 100 := by
          have := len_bszs ts
          omega
        have szv := bsz_le hk
        refine q_asg (ev_op (ev_var rfl) ev_c (rv_ixT (K := K) g1 (atI_vi (k := 2) rfl))) fun H2 e2 => ?_
        refine q_asg (v := vi k) (ev_op (ev_var rfl) ev_c (rv_ixT (K := K) (ex_t (e1.trans e2) hp) (atI_vi (k := 0) rfl))) fun H3 e3 => ?_
        have e13 := e2.trans e3
        have e03 := e1.trans e13
        obtain ⟨w1, g3, g4⟩ := (tms1.ex e13).put kl
        rw [(List.getElem?_eq_some_iff.mp hk).2] at g4
        show tRet _ _ [some (.ref a1), some (.ref a), some ov, some (.ref b1), some (vi k)] H3
        have g1' := ex_t e13 g1
        have g2' := ex_t e13 g2
        have hp3 := ex_t e03 hp
        have tl : EvP (tSl (rSlA K) (tVar 1) (tPart (tC (.int 1))) tNoPart) [some (.ref a1), some (.ref a), some ov, some (.ref b1), some (vi k)] H3 (fun v H' => TupV K H' v (((k :: p).map vi).drop 1)) := ep_cutFrom (K := K) (k := 1) (ev_var rfl) hp3 ev_c (by rw [List.length_map, List.length_cons]; omega)
        have mid : EvP (tTup (tCons (tCall (sp_laidB K n) [] E0 (tCons (tOp (rIxT K) (tVar 3) (tVar 4)) (tCons (tSl (rSlA K) (tVar 1) (tPart (tC (.int 1))) tNoPart) (tCons (tVar 2) tNil)))) tNil)) [some (.ref a1), some (.ref a), some ov, some (.ref b1), some (vi k)] H3 (fun v H' => ∃ x, TupV K H' v [x] ∧ BtV K H' sg (brep p v' o) x) := by
          intro H4 e4 Q2 q2
          refine do_tup (do_cons (do_cons (do_ev (fun H5 e5 => ev_op (ev_var rfl) (ev_var rfl) (rv_ixT (K := K) g2' (atI_vi (k := k) g3)) H5 (e4.trans e5)) fun H5 e5 => do_cons (tl H5 (e4.trans e5) _ fun r H6 e6 hr6 => do_cons (do_ev (ev_var rfl) fun H7 e7 => do_nil ?_)))))
          obtain ⟨ra, rfl, sr⟩ := hr6
          have e37 := ((e4.trans e5).trans e6).trans e7
          refine ⟨LQ.mk sg v' p u o, ⟨⟨w1, ra, ov, rfl, g4.ex e37, ex_t e7 sr, tO.ex (e03.trans e37)⟩, h2, by show p.length < n; rw [List.length_cons] at lp; omega, by show v'.sz ≤ 100; omega⟩, fun x H8 e8 hx => do_nil ⟨by show 1 ≤ sizeLine; decide, fun c nc => ?_⟩⟩
          exact q2 _ _ ((((e5.trans e6).trans e7).trans e8).trans (Ex.new nc)) ⟨x, ⟨c, rfl, st_of upd_same⟩, BtV.ex (Ex.new nc) hx⟩
        have left := ep_cutTo (K := K) (k := k) (ta := tVar 3) (tb := tVar 4) (σ := [some (.ref a1), some (.ref a), some ov, some (.ref b1), some (vi k)]) (H := H3) (ev_var rfl) g2' (ev_var rfl) (by omega)
        have right := ep_cutFrom (K := K) (k := k + 1) (ta := tVar 3) (tb := tOp (rI0 fun i j => .int (i + j)) (tVar 4) (tC (.int 1))) (σ := [some (.ref a1), some (.ref a), some ov, some (.ref b1), some (vi k)]) (H := H3) (ev_var rfl) g2' (ev_addM (a := k) (b := 1) (ev_var rfl) ev_c) (by omega)
        have lt1 : (vs1.take k).length ≤ 100 := by rw [List.length_take]; omega
        have ld1 : (vs1.drop (k + 1)).length ≤ 100 := by rw [List.length_drop]; omega
        refine do_ret (do_tup (do_cons (do_ev (ev_op (ev_var rfl) ev_c (rv_ixT (K := K) g1' (atI_vi (k := 0) rfl))) fun H4 e4 => do_cons (do_ev (ev_op (ev_var rfl) ev_c (rv_ixT (K := K) (ex_t e4 g1') (atI_vi (k := 1) rfl))) fun H5 e5 => do_cons (do_op (do_op (left H5 (e4.trans e5) _ fun lv H6 e6 hl6 => mid H6 ((e4.trans e5).trans e6) _ fun mv H7 e7 hm7 => ?_)))))))
        obtain ⟨x, hm, tx⟩ := hm7
        have e37 := ((e4.trans e5).trans e6).trans e7
        refine cat_at (K := K) (hl6.ex e7) hm (by show _ + 1 ≤ 100000; omega) fun cv H8 e8 hc => ?_
        refine right H8 (e37.trans e8) _ fun rv H9 e9 hr9 => ?_
        refine cat_at (K := K) (hc.ex e9) hr9 (by rw [List.length_append]; show _ + 1 + _ ≤ 100000; omega) fun av H10 e10 hA => do_nil ⟨by show 3 ≤ sizeLine; decide, fun r nr => ?_⟩
        obtain ⟨ca, rfl, sca⟩ := hA
        have e710 := (e8.trans e9).trans e10
        have e310 := e37.trans e710
        have x11 : Ex H10 (upd H10 r (.tup [.str "deed", .str f1, .ref ca])) := Ex.new nr
        refine q _ _ (e03.trans (e310.trans x11)) ?_
        rw [brep_down hk]
        refine btv_deed (st_of upd_same) (ex_t x11 sca) ?_
        have part := ((tms1.take k).ex (e13.trans (e310.trans x11))).app (BtsV.one (tx.ex (e710.trans x11))) |>.app ((tms1.drop (k + 1)).ex (e13.trans (e310.trans x11)))
        rw [List.append_assoc] at part
        exact part
end
end K02
end
section
namespace K02
open PySem PySem.Spec PyProof.Rows L2 Evl RZ Dw M20
theorem gd_strN {z : Str} {n : Nat} (h : ∀ c ∈ z.cps.toList, c < 0x110000) (l : z.cps.size ≤ n) (l2 : n ≤ 100) : Gd 0 n (.str z) := by
  have g := gd_str h (Nat.le_trans l l2)
  exact ⟨g.lay, g.dep, by rw [PyData.weight]; exact l, g.its, g.sho⟩
theorem gd_small {ds : List PyData} (h : ∀ d ∈ ds, Gd 3 22 d) (l : ds.length ≤ 4) : Gd 5 100 (.tuple ds) := (gd_tup h l).mono (by decide) (by decide)
theorem gd_smallL {ds : List PyData} (h : ∀ d ∈ ds, Gd 3 22 d) (l : ds.length ≤ 4) : Gd 5 100 (.list ds) := (gd_lst h l).mono (by decide) (by decide)
theorem gd_s {z : Str} (h : (∀ c ∈ z.cps.toList, c < 0x110000) ∧ z.cps.size ≤ 22) : Gd 3 22 (.str z) := (gd_strN h.1 h.2 (by decide)).mono (by decide) (Nat.le_refl _)
theorem gd_none : Gd 3 22 .none := ⟨by rw [PyData.canLay0], by rw [PyData.depth]; decide, by rw [PyData.weight]; decide, by rw [PyData.intsShort], by rw [PyData.showable]⟩
theorem gd_bool (b : Bool) : Gd 3 22 (.bool b) := ⟨by rw [PyData.canLay0], by rw [PyData.depth]; decide, by rw [PyData.weight]; decide, by rw [PyData.intsShort], by rw [PyData.showable]⟩
def leafD (x : Str) : PyData := .tuple [.str "var", .str x]
theorem gd_leaf {x : Str} (h : x ∈ vars) : Gd 1 6 (leafD x) := by
  have a := gd_strN (z := ("var" : Str)) (n := 3) (by decide) (by decide) (by decide)
  have v1 : ∀ x ∈ vars, (∀ c ∈ x.cps.toList, c < 0x110000) ∧ x.cps.size ≤ 1 := by decide +kernel
  have b := gd_strN (z := x) (n := 1) (v1 x h).1 (v1 x h).2 (by decide)
  have g := gd_tup (k := 0) (W := 3) (L := 2) (ds := [.str "var", .str x]) (fun d hd => by
    simp only [List.mem_cons, List.not_mem_nil, or_false] at hd
    rcases hd with e | e
    · rw [e]; exact a
    · rw [e]; exact b.mono (Nat.le_refl _) (by decide)) (Nat.le_refl 2)
  refine ⟨g.lay, g.dep, ?_, g.its, g.sho⟩
  have w1 := a.wgt
  have w2 := b.wgt
  rw [leafD, PyData.weight, PyData.weightAll, PyData.weightAll, PyData.weightAll]
  omega
theorem gd_leaves {x : Str} {k : Nat} (h : x ∈ vars) (k3 : k ≤ 3) : (∀ d ∈ List.replicate k (leafD x), Gd 1 6 d) ∧ (List.replicate k (leafD x)).length ≤ 3 := ⟨fun d hd => by rw [List.eq_of_mem_replicate hd]; exact gd_leaf h, by rw [List.length_replicate]; exact k3⟩
theorem gd_leavesT {x : Str} {k : Nat} (h : x ∈ vars) (k3 : k ≤ 3) : Gd 3 22 (.tuple (List.replicate k (leafD x))) := (gd_tup (gd_leaves h k3).1 (gd_leaves h k3).2).mono (by decide) (by decide)
theorem gd_leavesL {x : Str} {k : Nat} (h : x ∈ vars) (k3 : k ≤ 3) : Gd 3 22 (.list (List.replicate k (leafD x))) := (gd_lst (gd_leaves h k3).1 (gd_leaves h k3).2).mono (by decide) (by decide)
theorem noL_leaf (x : Str) : ∀ k, noLs (List.replicate k (leafD x)) = true
  | 0 => rfl
  | k + 1 => by
    rw [List.replicate_succ, noLs, noL_leaf x k]
    rfl
theorem strOk_of {z : Str} {k W : Nat} (g : Gd k W (.str z)) : PyData.strOk z = true := by
  have := g.lay
  simpa [PyData.canLay0] using this
theorem six_mem {k d : Nat} (h : ("uvwxyz" : Str).cps[k]? = some d) : (⟨#[d]⟩ : Str) ∈ vars := by
  have l : k < 6 := (Array.getElem?_eq_some_iff.mp h).1
  have : k = 0 ∨ k = 1 ∨ k = 2 ∨ k = 3 ∨ k = 4 ∨ k = 5 := by omega
  rcases this with rfl | rfl | rfl | rfl | rfl | rfl <;> (cases h; decide)
section
variable {P : Program} {w : World} {K : PySem.W.Frag} {mg : Str → Option Value} {base : Heap} {σ : L2.St} {H H' : Hp} {va p c : Addr} {n : Nat} {sg : List (Str × Nat)}
/-- something to lay -/
def ThB (K : PySem.W.Frag) (H : Hp) (sg : List (Str × Nat)) (v : V) : Prop := ∃ b : Bt, BtV K H sg b v ∧ b.ok sg ∧ b.fine ∧ b.sz ≤ 4
theorem ThB.ex {v : V} (e : Ex H H') (h : ThB K H sg v) : ThB K H' sg v := let ⟨b, x, y⟩ := h; ⟨b, x.ex e, y⟩
theorem th_odd {v : V} {d : PyData} (hq : Dq K H v d) (nf : NF K H sg v) (g : Gd 5 100 d) : ThB K H sg v := ⟨.odd d, by rw [BtV]; exact ⟨hq, nf⟩, by rw [Bt.ok]; trivial, by rw [Bt.fine]; exact g, by rw [Bt.sz]; decide⟩
theorem dps_rep {v : V} {d : PyData} (h : Dp K H v d) : ∀ k, DpAll K H (List.replicate k v) (List.replicate k d)
  | 0 => .nil
  | k + 1 => .cons h (dps_rep h k)
theorem bts_rep {v : V} {b : Bt} (h : BtV K H sg b v) : ∀ k, BtsV K H sg (List.replicate k b) (List.replicate k v)
  | 0 => BtsV.nil
  | k + 1 => by
    rw [List.replicate_succ, List.replicate_succ, BtsV]
    exact ⟨v, _, rfl, h, bts_rep h k⟩
theorem boks_rep {b : Bt} (h : b.ok sg) : ∀ k, boks sg (List.replicate k b)
  | 0 => by rw [List.replicate_zero, boks]; trivial
  | k + 1 => by rw [List.replicate_succ, boks]; exact ⟨h, boks_rep h k⟩
theorem bfines_rep {b : Bt} (h : b.fine) : ∀ k, bfines (List.replicate k b)
  | 0 => by rw [List.replicate_zero, bfines]; trivial
  | k + 1 => by rw [List.replicate_succ, bfines]; exact ⟨h, bfines_rep h k⟩
theorem bszs_rep {b : Bt} (h : b.sz = 1) : ∀ k, bszs (List.replicate k b) = k
  | 0 => by rw [List.replicate_zero, bszs]
  | k + 1 => by rw [List.replicate_succ, bszs, h, bszs_rep h k, Nat.add_comm]
/-- a leaf -/
structure Lf (K : PySem.W.Frag) (H : Hp) (lf : Addr) (x : Str) : Prop where
  at_ : H lf = some (.tup [.str "var", .str x])
  mem : x ∈ vars
theorem Lf.ex {lf : Addr} {x : Str} (e : Ex H H') (h : Lf K H lf x) : Lf K H' lf x := ⟨e _ _ h.at_, h.mem⟩
theorem Lf.dp {lf : Addr} {x : Str} (h : Lf K H lf x) : Dp K H (.ref lf) (leafD x) := .tup (st_of h.at_) (.cons (.str _) (.cons (.str _) .nil))
theorem Lf.bt {lf : Addr} {x : Str} (h : Lf K H lf x) : BtV K H sg (.var x) (.ref lf) := btv_var (st_of h.at_)
theorem Lf.th {lf : Addr} {x : Str} (h : Lf K H lf x) : ThB K H sg (.ref lf) := ⟨.var x, h.bt, by rw [Bt.ok]; exact h.mem, by rw [Bt.fine]; trivial, by rw [Bt.sz]; decide⟩
/-- a tuple of so many leaves -/
def RpT (K : PySem.W.Frag) (H : Hp) (v : V) (xs : List V) : Prop := ∃ b, v = .ref b ∧ SqT K H b xs
theorem RpT.ex {v : V} {xs : List V} (e : Ex H H') (h : RpT K H v xs) : RpT K H' v xs := let ⟨b, q, s⟩ := h; ⟨b, q, ex_t e s⟩
theorem mem3 {α : Type} {P : α → Prop} {a b c : α} (ha : P a) (hb : P b) (hc : P c) : ∀ d ∈ [a, b, c], P d := fun d hd => by
  simp only [List.mem_cons, List.not_mem_nil, or_false] at hd
  rcases hd with e | e | e <;> rw [e] <;> assumption
theorem mem2 {α : Type} {P : α → Prop} {a b : α} (ha : P a) (hb : P b) : ∀ d ∈ [a, b], P d := fun d hd => by
  simp only [List.mem_cons, List.not_mem_nil, or_false] at hd
  rcases hd with e | e <;> rw [e] <;> assumption
theorem mem1 {α : Type} {P : α → Prop} {a : α} (ha : P a) : ∀ d ∈ [a], P d := fun d hd => by
  rw [List.mem_singleton.mp hd]
  exact ha
theorem mem4 {α : Type} {P : α → Prop} {a b c e : α} (ha : P a) (hb : P b) (hc : P c) (he : P e) : ∀ d ∈ [a, b, c, e], P d := fun d hd => by
  simp only [List.mem_cons, List.not_mem_nil, or_false] at hd
  rcases hd with e | e | e | e <;> rw [e] <;> assumption
theorem gd_deedS : Gd 3 22 (.str ("deed" : Str)) := gd_s (by decide)
theorem gd_varS : Gd 3 22 (.str ("var" : Str)) := gd_s (by decide)
theorem th_many {a lf : Addr} {f x : Str} {y : V} {k : Nat} (s : SqT K H a [.str "deed", .str f, y]) (r : RpT K H y (List.replicate k (.ref lf))) (h : Lf K H lf x) (g : Gd 3 22 (.str f)) (k3 : k ≤ 3) : ThB K H sg (.ref a) := by
  obtain ⟨b, rfl, sb⟩ := r
  by_cases mem : (f, k) ∈ sg
  · refine ⟨.deed f (List.replicate k (.var x)), btv_deed s sb (bts_rep h.bt k), ?_, ?_, ?_⟩
    · rw [Bt.ok, List.length_replicate]
      exact ⟨mem, boks_rep (by rw [Bt.ok]; exact h.mem) k⟩
    · rw [Bt.fine]
      exact bfines_rep (by rw [Bt.fine]; trivial) k
    · rw [Bt.sz, bszs_rep (by rw [Bt.sz]) k]
      omega
  · refine th_odd (d := .tuple [.str "deed", .str f, .tuple (List.replicate k (leafD x))]) (.fl (.tup s (.cons (.str _) (.cons (.str _) (.cons (.tup sb (dps_rep h.dp k)) .nil)))) ?_) (.many s sb (by rw [List.length_replicate]; exact mem) (strOk_of g)) (gd_small (mem3 gd_deedS g (gd_leavesT h.mem k3)) (by show 3 ≤ 4; decide))
    rw [noL, noLs, noLs, noLs, noLs, noL, noL, noL, noL_leaf]
    rfl
theorem th_three {a lf : Addr} {z f x : Str} {y : V} {k : Nat} (ne : z ≠ "deed") (s : SqT K H a [.str z, .str f, y]) (r : RpT K H y (List.replicate k (.ref lf))) (h : Lf K H lf x) (gz : Gd 3 22 (.str z)) (g : Gd 3 22 (.str f)) (k3 : k ≤ 3) : ThB K H sg (.ref a) := by
  obtain ⟨b, rfl, sb⟩ := r
  refine th_odd (d := .tuple [.str z, .str f, .tuple (List.replicate k (leafD x))]) (.fl (.tup s (.cons (.str _) (.cons (.str _) (.cons (.tup sb (dps_rep h.dp k)) .nil)))) ?_) (.three s ne) (gd_small (mem3 gz g (gd_leavesT h.mem k3)) (by show 3 ≤ 4; decide))
  rw [noL, noLs, noLs, noLs, noLs, noL, noL, noL, noL_leaf]
  rfl
theorem th_four {a lf : Addr} {f x : Str} {y : V} {k : Nat} (s : SqT K H a [.str "deed", .str f, y, .int 0]) (r : RpT K H y (List.replicate k (.ref lf))) (h : Lf K H lf x) (g : Gd 3 22 (.str f)) (k3 : k ≤ 3) : ThB K H sg (.ref a) := by
  obtain ⟨b, rfl, sb⟩ := r
  have g0 : Gd 3 22 (.int 0) := ⟨by rw [PyData.canLay0], by rw [PyData.depth]; decide, by rw [PyData.weight]; decide, by rw [PyData.intsShort]; decide, by rw [PyData.showable]; decide⟩
  refine th_odd (d := .tuple [.str "deed", .str f, .tuple (List.replicate k (leafD x)), .int 0]) (.fl (.tup s (.cons (.str _) (.cons (.str _) (.cons (.tup sb (dps_rep h.dp k)) (.cons (.int _) .nil))))) ?_) (.len s (by show 4 ≠ 2; decide) (by show 4 ≠ 3; decide)) (gd_small (mem4 gd_deedS g (gd_leavesT h.mem k3) g0) (by show 4 ≤ 4; decide))
  rw [noL, noLs, noLs, noLs, noLs, noLs, noL, noL, noL, noL, noL_leaf]
  rfl
theorem th_nones {a : Addr} {f : Str} {y : V} {k : Nat} (s : SqT K H a [.str "deed", .str f, y]) (r : RpT K H y (List.replicate k .non)) (mem : (f, k) ∈ sg) (k3 : k ≤ 3) : ThB K H sg (.ref a) := by
  obtain ⟨b, rfl, sb⟩ := r
  have o : BtV K H sg (.odd .none) .non := by
    rw [BtV]
    exact ⟨.fl .non rfl, .tup .non⟩
  refine ⟨.deed f (List.replicate k (.odd .none)), btv_deed s sb (bts_rep o k), ?_, ?_, ?_⟩
  · rw [Bt.ok, List.length_replicate]
    exact ⟨mem, boks_rep (by rw [Bt.ok]; trivial) k⟩
  · rw [Bt.fine]
    exact bfines_rep (by rw [Bt.fine]; exact gd_none.mono (by decide) (by decide)) k
  · rw [Bt.sz, bszs_rep (by rw [Bt.sz]) k]
    omega
theorem th_list {a b lf : Addr} {f x : Str} {k : Nat} (s : SqT K H a [.str "deed", .str f, .ref b]) (hb : H b = some (.lst (List.replicate k (.ref lf)))) (h : Lf K H lf x) (g : Gd 3 22 (.str f)) (k3 : k ≤ 3) : ThB K H sg (.ref a) := by
  have far : FarL H (List.replicate k (V.ref lf)) := by
    cases k with
    | zero => exact .inl rfl
    | succ k => exact .inr ⟨_, _, rfl, .inr ⟨lf, _, rfl, h.at_⟩⟩
  exact th_odd (.deed s hb (dps_rep h.dp k) (noL_leaf x k) far) (.terms s (.lst hb far)) (gd_small (mem3 gd_deedS g (gd_leavesL h.mem k3)) (by show 3 ≤ 4; decide))
end
end K02
end
section
namespace K02
open PySem PySem.Spec PyProof.Rows L2 Evl RZ Dw M20
theorem flatten_rep {α : Type} (x : α) : ∀ k, (List.replicate k [x]).flatten = List.replicate k x
  | 0 => rfl
  | k + 1 => by
    rw [List.replicate_succ, List.flatten_cons, flatten_rep x k, List.replicate_succ]
    rfl
section
variable {P : Program} {w : World} {K : PySem.W.Frag} {mg : Str → Option Value} {base : Heap} {σ : L2.St} {H H' Hb : Hp} {va p c : Addr} {n m : Nat} {sg : List (Str × Nat)}
/-- (x,) * k -/
theorem ep_repT {ta tk : TE} {x : V} {k : Int} {j : Nat} (ha : Ev ta σ H x) (hk : ∀ H1, Ex H H1 → Ev tk σ H1 (.int k)) (h0 : -10 ≤ k) (h1 : k ≤ 10) (ej : k.toNat = j) : EvP (tOp (rRepTA K) (tTup (tCons ta tNil)) tk) σ H (fun v H' => RpT K H' v (List.replicate j x)) := fun H1 e Q q => by
  subst ej
  refine do_op (eu_tup (ea_cons ha ea_nil) (by show 1 ≤ 100000; decide) H1 e _ fun l H2 _ e2 hl => hk H2 (e.trans e2) H2 (Ex.refl _) _ fun H3 e3 => ?_)
  have x13 := e2.trans e3
  refine ⟨l, k, [x], rfl, rfl, st_of (e3 _ _ hl), by simp, h0, by omega, by show 1 ≤ 1000; decide, fun k0 p np => ?_, fun k1 => ?_, fun k2 p np => ?_⟩
  · refine q _ _ (x13.trans (Ex.new np)) ⟨p, rfl, ?_⟩
    rw [show k.toNat = 0 by omega]
    exact st_of upd_same
  · refine q _ _ x13 ⟨l, rfl, ?_⟩
    rw [show k.toNat = 1 by omega]
    exact st_of (e3 _ _ hl)
  · refine q _ _ (x13.trans (Ex.new np)) ⟨p, rfl, ?_⟩
    rw [flatten_rep]
    exact st_of upd_same
/-- [x] * k -/
theorem el_repL {ta tk : TE} {x : V} {k : Nat} (ha : Ev ta σ H x) (hk : Ev tk σ H (vi k)) (h1 : k ≤ 10) : EvL (tOp rRep (tLst (tCons ta tNil)) tk) σ H (List.replicate k x) := by
  have := el_rep (n := k) (el_lst (vs := [x]) (ea_cons ha ea_nil) (by show 1 ≤ 100000; decide)) hk (by show 1 * k ≤ 100000; omega) (by omega)
  rw [flatten_rep] at this
  exact this
theorem ep_t3 {t1 t2 t3 : TE} {v1 : V} {P2 P3 : V → Hp → Prop} (h1 : Ev t1 σ H v1) (h2 : EvP t2 σ H P2) (h3 : EvP t3 σ H P3) (k2 : ∀ v H1 H2, Ex H1 H2 → P2 v H1 → P2 v H2) (k3 : ∀ v H1 H2, Ex H1 H2 → P3 v H1 → P3 v H2) :
    EvP (tTup (tCons t1 (tCons t2 (tCons t3 tNil)))) σ H (fun v H' => ∃ a y z, v = .ref a ∧ SqT K H' a [v1, y, z] ∧ P2 y H' ∧ P3 z H') := fun H1 e Q q =>
  do_tup (do_cons (h1 H1 e _ fun H2 e2 => do_cons (h2 H2 (e.trans e2) _ fun y H3 e3 hy => do_cons (h3 H3 ((e.trans e2).trans e3) _ fun z H4 e4 hz => do_nil ⟨by show 3 ≤ sizeLine; decide, fun p np =>
    q _ _ (((e2.trans e3).trans e4).trans (Ex.new np)) ⟨p, y, z, rfl, st_of upd_same, k2 _ _ _ (e4.trans (Ex.new np)) hy, k3 _ _ _ (Ex.new np) hz⟩⟩))))
theorem ep_t4 {t1 t2 t3 t4 : TE} {v1 v2 v4 : V} {P3 : V → Hp → Prop} (h1 : Ev t1 σ H v1) (h2 : Ev t2 σ H v2) (h3 : EvP t3 σ H P3) (h4 : Ev t4 σ H v4) (k3 : ∀ v H1 H2, Ex H1 H2 → P3 v H1 → P3 v H2) :
    EvP (tTup (tCons t1 (tCons t2 (tCons t3 (tCons t4 tNil))))) σ H (fun v H' => ∃ a z, v = .ref a ∧ SqT K H' a [v1, v2, z, v4] ∧ P3 z H') := fun H1 e Q q =>
  do_tup (do_cons (h1 H1 e _ fun H2 e2 => do_cons (h2 H2 (e.trans e2) _ fun H3 e3 => do_cons (h3 H3 ((e.trans e2).trans e3) _ fun z H4 e4 hz => do_cons (h4 H4 (((e.trans e2).trans e3).trans e4) _ fun H5 e5 => do_nil ⟨by show 4 ≤ sizeLine; decide, fun p np =>
    q _ _ ((((e2.trans e3).trans e4).trans e5).trans (Ex.new np)) ⟨p, z, rfl, st_of upd_same, k3 _ _ _ (e5.trans (Ex.new np)) hz⟩⟩)))))
/-- rows of things to lay -/
def EvTh (K : PySem.W.Frag) (sg : List (Str × Nat)) (n : Nat) (ta : TA) (σ : L2.St) (H : Hp) : Prop := ∀ H1, Ex H H1 → ∀ Q : List V → Hp → Prop, (∀ vs H2, Ex H1 H2 → vs.length = n → (∀ x ∈ vs, ThB K H2 sg x) → Q vs H2) → ta σ H1 Q
theorem eth_nil : EvTh K sg 0 tNil σ H := fun H1 _ Q q => q [] H1 (Ex.refl _) rfl (fun x hx => by cases hx)
theorem eth_cons {te : TE} {tr : TA} (h : EvP te σ H fun v H' => ThB K H' sg v) (hr : EvTh K sg n tr σ H) : EvTh K sg (n + 1) (tCons te tr) σ H := fun H1 e Q q => do_cons (h H1 e _ fun v H2 e2 hv => hr H2 (e.trans e2) _ fun vs H3 e3 ln hvs => q _ H3 (e2.trans e3) (by rw [List.length_cons, ln]) (fun x hx => by
  rcases List.mem_cons.mp hx with z | z
  · rw [z]
    exact hv.ex e3
  · exact hvs x z))
/-- a list of n such, new since Hb -/
def ThL (K : PySem.W.Frag) (sg : List (Str × Nat)) (Hb : Hp) (n : Nat) (v : V) (H : Hp) : Prop := ∃ (l : Addr) (xs : List V) (Hm : Hp), v = .ref l ∧ H l = some (.lst xs) ∧ xs.length = n ∧ Ex Hb Hm ∧ Hm l = none ∧ Ex Hm H ∧ ∀ x ∈ xs, ThB K Hm sg x
theorem ThL.ex {v : V} (e : Ex H H') (h : ThL K sg Hb n v H) : ThL K sg Hb n v H' := let ⟨l, xs, Hm, a, b, d, f, g, i, j⟩ := h; ⟨l, xs, Hm, a, e _ _ b, d, f, g, i.trans e, j⟩
theorem ep_thl {ta : TA} (eb : Ex Hb H) (h : EvTh K sg n ta σ H) (l : n ≤ 1000) : EvP (tLst ta) σ H (ThL K sg Hb n) := fun H1 e Q q => do_lst (h H1 e _ fun vs H2 e2 ln hv => ⟨sz_of (by omega), fun p np => q _ _ (e2.trans (Ex.new np)) ⟨p, vs, H2, rfl, upd_same, ln, (eb.trans e).trans e2, np, Ex.new np, hv⟩⟩)
/-! the single ones -/
theorem ep_th2 {cv : V} {cd : PyData} (hd : ∀ H, Dp K H cv cd) (fl : flatV cv = true) (no : inV cv (vars.map V.str) = false) (g : Gd 3 22 cd) (nl : noL cd = true) : EvP (tTup (tCons (tC (.str "var")) (tCons (tC cv) tNil))) σ H (fun v H' => ThB K H' sg v) := fun H1 e Q q =>
  eu_tup (ea_cons ev_c (ea_cons ev_c ea_nil)) (by show 2 ≤ 100000; decide) H1 e _ fun p H2 _ e2 hp => q _ H2 e2 (th_odd (d := .tuple [.str "var", cd]) (.fl (.tup (st_of hp) (.cons (.str _) (.cons (hd _) .nil))) (by rw [noL, noLs, noLs, noLs, nl, noL]; rfl)) (.letter (st_of hp) fl no) (gd_small (mem2 gd_varS g) (by show 2 ≤ 4; decide)))
theorem ep_thC {v : V} {d : PyData} (hd : ∀ H, Dp K H v d) (nt : ∀ H, NoTu H v) (g : Gd 3 22 d) (nl : noL d = true) : EvP (tC v) σ H (fun v H' => ThB K H' sg v) := ep_ev ev_c fun H' _ => th_odd (.fl (hd _) nl) (.tup (nt _)) (g.mono (by decide) (by decide))
theorem ep_th0 : EvP (tTup tNil) σ H (fun v H' => ThB K H' sg v) := fun H1 e Q q => eu_tup ea_nil (by show 0 ≤ 100000; decide) H1 e _ fun p H2 _ e2 hp => q _ H2 e2 (th_odd (d := .tuple []) (.fl (.tup (st_of hp) .nil) rfl) (.len (st_of hp) (by decide) (by decide)) (gd_small (fun d hd => by cases hd) (by decide)))
theorem ep_th1 : EvP (tTup (tCons (tC (.str "var")) tNil)) σ H (fun v H' => ThB K H' sg v) := fun H1 e Q q => eu_tup (ea_cons ev_c ea_nil) (by show 1 ≤ 100000; decide) H1 e _ fun p H2 _ e2 hp => q _ H2 e2 (th_odd (d := .tuple [.str "var"]) (.fl (.tup (st_of hp) (.cons (.str _) .nil)) rfl) (.len (st_of hp) (by show 1 ≠ 2; decide) (by show 1 ≠ 3; decide)) (gd_small (mem1 gd_varS) (by show 1 ≤ 4; decide)))
theorem rp0 {t : TE} (h : EvU t σ H []) : EvP t σ H (fun v H' => RpT K H' v []) := fun H1 e Q q => h H1 e _ fun p H2 _ e2 hp => q _ H2 e2 ⟨p, rfl, st_of hp⟩
theorem gd_int {i : Int} (h : i.natAbs < 1000) (hs : PyData.intsShort 13 (.int i) = true) : Gd 3 22 (.int i) := by
  have l9 : i.natAbs.log2 ≤ 9 := log_low (by omega)
  refine ⟨by rw [PyData.canLay0], by rw [PyData.depth]; decide, ?_, hs, ?_⟩
  · rw [PyData.weight]
    split <;> omega
  · rw [PyData.showable]
    exact decide_eq_true (by omega)
theorem gd_tup0 : Gd 3 22 (.tuple []) := by
  have g : Gd (0 + 1) (0 * (0 + 1)) (.tuple []) := gd_tup (fun d hd => by cases hd) (Nat.le_refl 0)
  exact g.mono (by decide) (by decide)
theorem gd_1 : Gd 3 22 (.int 1) := gd_int (by decide) (by rw [PyData.intsShort]; decide)
theorem gd_7 : Gd 3 22 (.int 7) := gd_int (by decide) (by rw [PyData.intsShort]; decide)
/-- ("var", "x", ()) -/
theorem ep_thVx : EvP (tTup (tCons (tC (.str "var")) (tCons (tC (.str "x")) (tCons (tTup tNil) tNil)))) σ H (fun v H' => ThB K H' sg v) := (ep_t3 (K := K) (P2 := fun v _ => v = .str "x") ev_c (ep_ev ev_c fun _ _ => rfl) (rp0 (K := K) (eu_tup ea_nil (by show 0 ≤ 100000; decide))) (fun _ _ _ _ h => h) (fun _ _ _ e h => h.ex e)).imp fun v H' _ h => by
  obtain ⟨a, y, z, rfl, s, rfl, b, rfl, sb⟩ := h
  exact th_odd (d := .tuple [.str "var", .str "x", .tuple []]) (.fl (.tup s (.cons (.str _) (.cons (.str _) (.cons (.tup sb .nil) .nil)))) rfl) (.three s (by decide)) (gd_small (mem3 gd_varS (gd_s (by decide)) gd_tup0) (by show 3 ≤ 4; decide))
/-- (word, name, (leaf,) * k) -/
theorem ep_w3 {tn tl tk : TE} {z f : Str} {lf : Addr} {k : Int} {j : Nat} (hn : Ev tn σ H (.str f)) (hl : Ev tl σ H (.ref lf)) (hk : ∀ H1, Ex H H1 → Ev tk σ H1 (.int k)) (h0 : -10 ≤ k) (h1 : k ≤ 10) (ej : k.toNat = j) :
    EvP (tTup (tCons (tC (.str z)) (tCons tn (tCons (tOp (rRepTA K) (tTup (tCons tl tNil)) tk) tNil)))) σ H (fun v H' => ∃ a y, v = .ref a ∧ SqT K H' a [.str z, .str f, y] ∧ RpT K H' y (List.replicate j (.ref lf))) := (ep_t3 (K := K) (P2 := fun v _ => v = .str f) ev_c (ep_ev hn fun _ _ => rfl) (ep_repT hl hk h0 h1 ej) (fun _ _ _ _ h => h) (fun _ _ _ e h => h.ex e)).imp fun v H' _ h => by
  obtain ⟨a, y, z, rfl, s, rfl, r⟩ := h
  exact ⟨a, z, rfl, s, r⟩
theorem ep_thK {tn tl tk : TE} {f x : Str} {lf : Addr} {k : Int} {j : Nat} (hn : Ev tn σ H (.str f)) (hl : Ev tl σ H (.ref lf)) (hk : ∀ H1, Ex H H1 → Ev tk σ H1 (.int k)) (h0 : -10 ≤ k) (h1 : k ≤ 10) (ej : k.toNat = j) (h : Lf K H lf x) (g : Gd 3 22 (.str f)) (j3 : j ≤ 3) :
    EvP (tTup (tCons (tC (.str "deed")) (tCons tn (tCons (tOp (rRepTA K) (tTup (tCons tl tNil)) tk) tNil)))) σ H (fun v H' => ThB K H' sg v) := (ep_w3 (K := K) hn hl hk h0 h1 ej).imp fun v H' e h1 => by
  obtain ⟨a, y, rfl, s, r⟩ := h1
  exact th_many s r (h.ex e) g j3
theorem ep_thL {tn tl tk : TE} {f x : Str} {lf : Addr} {j : Nat} (hn : Ev tn σ H (.str f)) (hl : Ev tl σ H (.ref lf)) (hk : Ev tk σ H (vi j)) (h : Lf K H lf x) (g : Gd 3 22 (.str f)) (j3 : j ≤ 3) :
    EvP (tTup (tCons (tC (.str "deed")) (tCons tn (tCons (tOp rRep (tLst (tCons tl tNil)) tk) tNil)))) σ H (fun v H' => ThB K H' sg v) := (ep_t3 (K := K) (P2 := fun v _ => v = .str f) (P3 := fun v H' => ∃ b, v = .ref b ∧ H' b = some (.lst (List.replicate j (.ref lf)))) ev_c (ep_ev hn fun _ _ => rfl) (fun H1 e Q q => el_repL hl hk (by omega) H1 e _ fun p H2 _ e2 hp => q _ H2 e2 ⟨p, rfl, hp⟩) (fun _ _ _ _ h => h) (fun _ _ _ e ⟨b, q, hb⟩ => ⟨b, q, e _ _ hb⟩)).imp fun v H' e h1 => by
  obtain ⟨a, y, z, rfl, s, rfl, b, rfl, hb⟩ := h1
  exact th_list s hb (h.ex e) g j3
/-- ("deed", name) -/
theorem ep_thN {tn : TE} {f : Str} (hn : Ev tn σ H (.str f)) (g : Gd 3 22 (.str f)) : EvP (tTup (tCons (tC (.str "deed")) (tCons tn tNil))) σ H (fun v H' => ThB K H' sg v) := fun H1 e Q q =>
  eu_tup (ea_cons ev_c (ea_cons hn ea_nil)) (by show 2 ≤ 100000; decide) H1 e _ fun p H2 _ e2 hp => q _ H2 e2 (th_odd (d := .tuple [.str "deed", .str f]) (.fl (.tup (st_of hp) (.cons (.str _) (.cons (.str _) .nil))) rfl) (.two (st_of hp) (by decide)) (gd_small (mem2 gd_deedS g) (by show 2 ≤ 4; decide)))
/-- ("deed", name, leaves, 0) -/
theorem ep_th4 {tn tl tk : TE} {f x : Str} {lf : Addr} {j : Nat} (hn : Ev tn σ H (.str f)) (hl : Ev tl σ H (.ref lf)) (hk : ∀ H1, Ex H H1 → Ev tk σ H1 (vi j)) (h : Lf K H lf x) (g : Gd 3 22 (.str f)) (j3 : j ≤ 3) :
    EvP (tTup (tCons (tC (.str "deed")) (tCons tn (tCons (tOp (rRepTA K) (tTup (tCons tl tNil)) tk) (tCons (tC (.int 0)) tNil))))) σ H (fun v H' => ThB K H' sg v) := (ep_t4 (K := K) ev_c hn (ep_repT (j := j) hl hk (by omega) (by omega) (by omega)) ev_c (fun _ _ _ e h => h.ex e)).imp fun v H' e h1 => by
  obtain ⟨a, y, rfl, s, r⟩ := h1
  exact th_four s r (h.ex e) g j3
/-- ["var", "x"] -/
theorem ep_thVL : EvP (tLst (tCons (tC (.str "var")) (tCons (tC (.str "x")) tNil))) σ H (fun v H' => ThB K H' sg v) := fun H1 e Q q =>
  el_lst (ea_cons ev_c (ea_cons ev_c ea_nil)) (by show 2 ≤ 100000; decide) H1 e _ fun p H2 _ e2 hp => q _ H2 e2 (th_odd (d := .list [.str "var", .str "x"]) (.lst hp (.cons (.str _) (.cons (.str _) .nil)) rfl (.inr ⟨_, _, rfl, .inl ⟨_, rfl⟩⟩)) (.tup (.lst hp (.inr ⟨_, _, rfl, .inl ⟨_, rfl⟩⟩))) (gd_smallL (mem2 gd_varS (gd_s (by decide))) (by show 2 ≤ 4; decide)))
/-- ("deed", 7, ()) -/
theorem ep_th7 : EvP (tTup (tCons (tC (.str "deed")) (tCons (tC (.int 7)) (tCons (tTup tNil) tNil)))) σ H (fun v H' => ThB K H' sg v) := (ep_t3 (K := K) (P2 := fun v _ => v = .int 7) ev_c (ep_ev ev_c fun _ _ => rfl) (rp0 (K := K) (eu_tup ea_nil (by show 0 ≤ 100000; decide))) (fun _ _ _ _ h => h) (fun _ _ _ e h => h.ex e)).imp fun v H' _ h => by
  obtain ⟨a, y, z, rfl, s, rfl, b, rfl, sb⟩ := h
  exact th_odd (d := .tuple [.str "deed", .int 7, .tuple []]) (.fl (.tup s (.cons (.str _) (.cons (.int _) (.cons (.tup sb .nil) .nil)))) rfl) (.name s (.int 7)) (gd_small (mem3 gd_deedS gd_7 gd_tup0) (by show 3 ≤ 4; decide))
/-- ("deed", None, (leaf,)) -/
theorem ep_thNo {tl : TE} {x : Str} {lf : Addr} (hl : Ev tl σ H (.ref lf)) (h : Lf K H lf x) : EvP (tTup (tCons (tC (.str "deed")) (tCons (tC .non) (tCons (tTup (tCons tl tNil)) tNil)))) σ H (fun v H' => ThB K H' sg v) := (ep_t3 (K := K) (P2 := fun v _ => v = .non) (P3 := fun v H' => RpT K H' v [.ref lf]) ev_c (ep_ev ev_c fun _ _ => rfl) (fun H1 e Q q => eu_tup (ea_cons hl ea_nil) (by show 1 ≤ 100000; decide) H1 e _ fun p H2 _ e2 hp => q _ H2 e2 ⟨p, rfl, st_of hp⟩) (fun _ _ _ _ h => h) (fun _ _ _ e h => h.ex e)).imp fun v H' e h1 => by
  obtain ⟨a, y, z, rfl, s, rfl, b, rfl, sb⟩ := h1
  exact th_odd (d := .tuple [.str "deed", .none, .tuple [leafD x]]) (.fl (.tup s (.cons (.str _) (.cons .non (.cons (.tup sb (.cons (h.ex e).dp .nil)) .nil)))) rfl) (.name s .non) (gd_small (mem3 gd_deedS gd_none (gd_leavesT (k := 1) h.mem (by decide))) (by show 3 ≤ 4; decide))
/-- ("deed", name, (None,) * k) -/
theorem ep_thNs {tn tk : TE} {f : Str} {j : Nat} (hn : Ev tn σ H (.str f)) (hk : ∀ H1, Ex H H1 → Ev tk σ H1 (vi j)) (mem : (f, j) ∈ sg) (j3 : j ≤ 3) :
    EvP (tTup (tCons (tC (.str "deed")) (tCons tn (tCons (tOp (rRepTA K) (tTup (tCons (tC .non) tNil)) tk) tNil)))) σ H (fun v H' => ThB K H' sg v) := (ep_t3 (K := K) (P2 := fun v _ => v = .str f) ev_c (ep_ev hn fun _ _ => rfl) (ep_repT (j := j) (x := .non) ev_c hk (by omega) (by omega) (by omega)) (fun _ _ _ _ h => h) (fun _ _ _ e h => h.ex e)).imp fun v H' _ h => by
  obtain ⟨a, y, z, rfl, s, rfl, r⟩ := h
  exact th_nones s r mem j3
/-- ("deed", (name,), ()) -/
theorem ep_thT {tn : TE} {f : Str} (hn : Ev tn σ H (.str f)) (g : Gd 0 5 (.str f)) : EvP (tTup (tCons (tC (.str "deed")) (tCons (tTup (tCons tn tNil)) (tCons (tTup tNil) tNil)))) σ H (fun v H' => ThB K H' sg v) := (ep_t3 (K := K) (P2 := fun v H' => RpT K H' v [.str f]) ev_c (fun H1 e Q q => eu_tup (ea_cons hn ea_nil) (by show 1 ≤ 100000; decide) H1 e _ fun p H2 _ e2 hp => q _ H2 e2 ⟨p, rfl, st_of hp⟩) (rp0 (K := K) (eu_tup ea_nil (by show 0 ≤ 100000; decide))) (fun _ _ _ e h => h.ex e) (fun _ _ _ e h => h.ex e)).imp fun v H' e h1 => by
  obtain ⟨a, y, z, rfl, s, ⟨d, rfl, sd⟩, b, rfl, sb⟩ := h1
  exact th_odd (d := .tuple [.str "deed", .tuple [.str f], .tuple []]) (.fl (.tup s (.cons (.str _) (.cons (.tup sd (.cons (.str _) .nil)) (.cons (.tup sb .nil) .nil)))) rfl) (.name s (.tup sd)) (gd_small (mem3 gd_deedS ((gd_tup (k := 0) (W := 5) (L := 1) (mem1 g) (Nat.le_refl 1)).mono (by decide) (by decide)) gd_tup0) (by show 3 ≤ 4; decide))
/-- ("deed", name, None) -/
theorem ep_thDN {tn : TE} {f : Str} (hn : Ev tn σ H (.str f)) (g : Gd 3 22 (.str f)) : EvP (tTup (tCons (tC (.str "deed")) (tCons tn (tCons (tC .non) tNil)))) σ H (fun v H' => ThB K H' sg v) := fun H1 e Q q =>
  eu_tup (ea_cons ev_c (ea_cons hn (ea_cons ev_c ea_nil))) (by show 3 ≤ 100000; decide) H1 e _ fun p H2 _ e2 hp => q _ H2 e2 (th_odd (d := .tuple [.str "deed", .str f, .none]) (.fl (.tup (st_of hp) (.cons (.str _) (.cons (.str _) (.cons .non .nil)))) rfl) (.terms (st_of hp) .non) (gd_small (mem3 gd_deedS g gd_none) (by show 3 ≤ 4; decide)))
end
end K02
end
section
namespace K02
open PySem PySem.Spec PyProof.Rows L2 Evl RZ Dw M20
section
variable {P : Program} {w : World} {K : PySem.W.Frag} {mg : Str → Option Value} {base : Heap} {σ : L2.St} {H H' Hb : Hp} {va p c : Addr} {n m : Nat} {sg : List (Str × Nat)}
theorem rv_addS {i j : Str} (h : i.length + j.length ≤ 100000) : RV (fun x y H Q => ∃ i j : Str, x = .str i ∧ y = .str j ∧ i.length + j.length ≤ sizeLine ∧ Q (.str (i ++ j)) H) (.str i) (.str j) H (.str (i ++ j)) := fun H1 _ Q q => ⟨i, j, rfl, rfl, sz_of h, q H1 (Ex.refl _)⟩
theorem ThL.now {v : V} (h : ThL K sg Hb n v H) : ∃ (l : Addr) (xs : List V), v = .ref l ∧ H l = some (.lst xs) ∧ xs.length = n ∧ ∀ x ∈ xs, ThB K H sg x := let ⟨l, xs, Hm, a, b, d, f, g, i, j⟩ := h; ⟨l, xs, a, b, d, fun x hx => (j x hx).ex i⟩
theorem ep_thn {tb : TE} {i : Nat} {v : V} (eb : Ex Hb H) (hi : σ[i]? = some (some v)) (hv : ∃ (l : Addr) (xs : List V), v = .ref l ∧ H l = some (.lst xs) ∧ xs.length = n ∧ ∀ x ∈ xs, ThB K H sg x) (h : EvP tb σ H (ThL K sg Hb m)) (l : n + m ≤ 1000) : EvP (tOp rCat (tVar i) tb) σ H (ThL K sg Hb (n + m)) := fun H1 e Q q =>
  do_op (do_ev (ev_var hi) fun H2 e2 => h H2 (e.trans e2) _ fun y H3 e3 hy => by
    obtain ⟨l1, xs, rfl, a1, a2, a6⟩ := hv
    obtain ⟨l2, ys, Hn, rfl, b1, b2, b3, b4, b5, b6⟩ := hy
    have x03 := (e.trans e2).trans e3
    refine ⟨l1, l2, xs, ys, rfl, rfl, x03 _ _ a1, b1, sz_of (by omega), fun p np => q _ _ ((e2.trans e3).trans (Ex.new np)) ⟨p, xs ++ ys, H3, rfl, upd_same, by rw [List.length_append]; omega, eb.trans x03, np, Ex.new np, fun x hx => ?_⟩⟩
    rcases List.mem_append.mp hx with z | z
    · exact (a6 x z).ex x03
    · exact (b6 x z).ex b5)
theorem SmsV.far {l : Addr} {es : List (List Nat × Bt)} (h : SmsV K H sg (.ref l) es) (ne : es ≠ []) (pu : Pur H p c n) : l ≠ p ∧ l ≠ c := by
  obtain ⟨l', us, e, hl, pr⟩ := h
  cases e
  constructor
  · intro z
    rw [z, pu.1] at hl
    injection hl with hl
    injection hl with hl
    rw [← hl] at pr
    cases pr with
    | cons a b =>
      cases b with
      | cons a2 b2 =>
        obtain ⟨_, _, _, e, _⟩ := a2
        cases e
  · intro z
    obtain ⟨cs, cne, _, hc⟩ := pu.2
    rw [z, hc] at hl
    injection hl with hl
    injection hl with hl
    cases cs with
    | nil => exact cne rfl
    | cons x xs =>
      rw [← hl] at pr
      cases pr with
      | cons a b =>
        obtain ⟨_, _, _, e, _⟩ := a
        cases e
theorem met_ne (t : Bt) (q : List Nat) : t.met q ≠ [] := fun z => by
  have h := met_len t q
  rw [z] at h
  have := bsz1 t
  rw [List.length_nil] at h
  omega
theorem name_gd {z : Str} (h : Name z) : Gd 3 22 (.str z) ∧ Gd 0 5 (.str z) ∧ Gd 3 22 (.str (z ++ "a")) := by
  have l4 : z.cps.size ≤ 4 := h.l4
  have cp := name_cps h
  refine ⟨gd_s ⟨cp, by omega⟩, gd_strN cp (by omega) (by decide), gd_s ⟨fun c hc => ?_, ?_⟩⟩
  · have : (z ++ ("a" : Str)).cps.toList = z.cps.toList ++ [97] := by
      show (z.cps ++ ("a" : Str).cps).toList = _
      rw [Array.toList_append]
      rfl
    rw [this] at hc
    rcases List.mem_append.mp hc with y | y
    · exact cp c y
    · rw [List.mem_singleton.mp y]
      decide
  · show (z.cps ++ ("a" : Str).cps).size ≤ 22
    rw [Array.size_append]
    show z.cps.size + 1 ≤ 22
    omega
def sp_bent (K : PySem.W.Frag) : Sp := fun vs H Q _ => ∃ (p c : Addr) (t : Nat) (sv v : V) (sg : List (Str × Nat)) (b : Bt), vs = [.ref p, sv, v] ∧ Pur H p c t ∧ t ≤ 80000 ∧ FSig K H sv sg ∧ SigOk sg ∧ BtV K H sg b v ∧ b.ok sg ∧ b.fine ∧ b.sz ≤ 67 ∧ ∀ v' b' H', Off H H' p c → Pur H' p c (t + 4) → BtV K H' sg b' v' → b'.ok sg → b'.fine → b'.sz ≤ b.sz + 3 → Q v' H'
theorem c_bent (T : Txt mg) (D : Df K mg "_law_bent" s__law_bent ["_law_purse_here", "_law_deeds_here", "_law_piece"]) (c_met : Cl P w K mg base 72 "_law_met" (sp_met K 70)) (c_pick : Cl P w K mg base 2 "_law_pick" (sp_pick K)) (c_laidB : Cl P w K mg base 71 "_law_laid" (sp_laidB K 70)) : Cl P w K mg base 73 "_law_bent" (sp_bent K) := by
  have c_laid := c_laidB
  refine cl_of (k := 72) D sc__law_bent (fun vs H Q E h => ?_) (fun f cdv A outer s H vs Q E hr h => ?_)
  · obtain ⟨p, c, t, sv, v, sg, b, rfl, _⟩ := h
    rfl
  · obtain ⟨p, c, t, sv, v, sg, b, rfl, pu, t8, hF, so, tv, ok, fi, small, q⟩ := h
    refine ⟨_, (pss_cons (ps_set (i := 3) sc__law_bent.nd rfl (.inl rfl) (pe_cl c_met hr (by first | decide | omega) (by rfl) (pa_cons (pv 1) (pa_cons (pv 2) (pa_cons (pe_tup pa_nil) pa_nil)))))
      (pss_cons (ps_asg (pe_cl c_pick hr (by first | decide | omega) (by rfl) (pa_cons (pv 0) (pa_cons (pv 3) pa_nil))) (pg_tup (by rfl) (pgs_cons (pg_name (i := 4) sc__law_bent.nd rfl (.inl rfl)) (pgs_cons (pg_name (i := 5) sc__law_bent.nd rfl (.inl rfl)) pgs_nil))))
      (pss_cons (ps_asg (pe_cl c_pick hr (by first | decide | omega) (by rfl) (pa_cons (pv 0) (pa_cons (pv 1) pa_nil))) (pg_tup (by rfl) (pgs_cons (pg_name (i := 6) sc__law_bent.nd rfl (.inl rfl)) (pgs_cons (pg_name (i := 7) sc__law_bent.nd rfl (.inl rfl)) pgs_nil))))
      (pss_cons (ps_set (i := 8) sc__law_bent.nd rfl (.inl rfl) (pe_tup (pa_cons pe_str (pa_cons (pe_cl c_pick hr (by first | decide | omega) (by rfl) (pa_cons (pv 0) (pa_cons pe_str pa_nil))) pa_nil))))
      (pss_cons (ps_set (i := 9) sc__law_bent.nd rfl (.inl rfl) (pe_lst (pa_cons (pe_tup (pa_cons pe_str (pa_cons pe_str pa_nil))) (pa_cons (pe_tup (pa_cons pe_str (pa_cons pe_str pa_nil))) (pa_cons (pe_tup (pa_cons pe_str (pa_cons pe_str pa_nil))) (pa_cons (pe_tup (pa_cons pe_str (pa_cons pe_int pa_nil))) (pa_cons (pe_tup (pa_cons pe_str pa_nil)) (pa_cons (pe_tup (pa_cons pe_str (pa_cons pe_str (pa_cons (pe_tup pa_nil) pa_nil)))) (pa_cons pe_non (pa_cons pe_int (pa_cons pe_str (pa_cons (pe_tup pa_nil) pa_nil))))))))))))
      (pss_cons (ps_set (i := 9) sc__law_bent.nd rfl (.inl rfl) (pe_op op_cat (pv 9) (pe_lst (pa_cons (pe_tup (pa_cons pe_str (pa_cons (pv 6) (pa_cons (pe_op op_repTA (pe_tup (pa_cons (pv 8) pa_nil)) (pe_op op_add (pv 7) pe_int)) pa_nil)))) (pa_cons (pe_tup (pa_cons pe_str (pa_cons (pv 6) (pa_cons (pe_op op_rep (pe_lst (pa_cons (pv 8) pa_nil)) (pv 7)) pa_nil)))) (pa_cons (pe_tup (pa_cons pe_str (pa_cons (pv 6) pa_nil))) (pa_cons (pv 8) pa_nil)))))))
      (pss_cons (ps_set (i := 9) sc__law_bent.nd rfl (.inl rfl) (pe_op op_cat (pv 9) (pe_lst (pa_cons pe_bl (pa_cons (pe_tup (pa_cons pe_str (pa_cons (pv 6) (pa_cons (pe_op op_repTA (pe_tup (pa_cons (pv 8) pa_nil)) (pe_op op_sub (pv 7) pe_int)) pa_nil)))) (pa_cons (pe_tup (pa_cons pe_str (pa_cons (pe_op op_add_str (pv 6) pe_str) (pa_cons (pe_op op_repTA (pe_tup (pa_cons (pv 8) pa_nil)) (pv 7)) pa_nil)))) pa_nil))))))
      (pss_cons (ps_expr (pe_bm PySem.F.plainAttrs_list PySem.F.slot_list_append PySem.F.type_list_append mt_append (pv 9) (pa_cons (pe_tup (pa_cons pe_str (pa_cons pe_str (pa_cons (pe_tup pa_nil) pa_nil)))) pa_nil)))
      (pss_cons (ps_expr (pe_bm PySem.F.plainAttrs_list PySem.F.slot_list_append PySem.F.type_list_append mt_append (pv 9) (pa_cons (pe_tup (pa_cons pe_str (pa_cons (pv 6) (pa_cons (pe_op op_repTA (pe_tup (pa_cons (pv 8) pa_nil)) (pv 7)) pa_nil)))) pa_nil)))
      (pss_cons (ps_set (i := 9) sc__law_bent.nd rfl (.inl rfl) (pe_op op_cat (pv 9) (pe_lst (pa_cons (pe_tup (pa_cons pe_str (pa_cons (pv 6) (pa_cons (pe_op op_repTA (pe_tup (pa_cons (pv 8) pa_nil)) (pv 7)) (pa_cons pe_int pa_nil))))) (pa_cons (pe_lst (pa_cons pe_str (pa_cons pe_str pa_nil))) (pa_cons (pe_tup (pa_cons pe_str (pa_cons pe_int (pa_cons (pe_tup pa_nil) pa_nil)))) (pa_cons (pe_tup (pa_cons pe_str (pa_cons pe_non (pa_cons (pe_tup (pa_cons (pv 8) pa_nil)) pa_nil)))) pa_nil)))))))
      (pss_cons (ps_set (i := 9) sc__law_bent.nd rfl (.inl rfl) (pe_op op_cat (pv 9) (pe_lst (pa_cons (pe_tup (pa_cons pe_str (pa_cons (pv 6) (pa_cons (pe_op op_repTA (pe_tup (pa_cons pe_non pa_nil)) (pv 7)) pa_nil)))) (pa_cons (pe_tup (pa_cons pe_str (pa_cons (pe_tup (pa_cons (pv 6) pa_nil)) (pa_cons (pe_tup pa_nil) pa_nil)))) (pa_cons (pe_tup (pa_cons pe_str (pa_cons pe_non pa_nil))) (pa_cons (pe_tup (pa_cons pe_str (pa_cons (pv 6) (pa_cons pe_non pa_nil)))) pa_nil)))))))
      (pss_one (ps_ret (pe_cl c_laid hr (by first | decide | omega) (by rfl) (pa_cons (pv 2) (pa_cons (pv 4) (pa_cons (pe_cl c_pick hr (by first | decide | omega) (by rfl) (pa_cons (pv 0) (pa_cons (pv 9) pa_nil))) pa_nil))))))))))))))))), ?_⟩
    refine q_asgP (ep_met (K := K) (ev_var rfl) (ev_var rfl) hF so tv ok (by omega)) fun mv H1 e1 hm => ?_
    obtain ⟨l, us, rfl, hl, pr⟩ := id hm
    have lus := paired_len pr
    rw [met_len] at lus
    have b1 := bsz1 b
    have pu1 := pu.ex e1
    obtain ⟨lp, lc⟩ := hm.far (met_ne b []) pu1
    obtain ⟨sa, so1, ps, rfl, hsa, sod, prs⟩ := id hF
    have sqS : SqT K H sa (ps.map V.ref) := .inl (.inr ⟨so1, hsa⟩)
    have lps := paired_len prs
    have sl1 := so.l1
    have sl4 := so.l4
    have sap : sa ≠ p := fun e => by
      rw [e, pu.1] at hsa
      cases hsa
    have sac : sa ≠ c := fun e => by
      obtain ⟨_, cs, _, _, h3⟩ := pu
      rw [e, h3] at hsa
      cases hsa
    show tSeq _ _ _ [some (.ref p), some (.ref sa), some v, some (.ref l), none, none, none, none, none, none] H1
    refine do_setG ?_
    refine do_cons (do_ev (ev_var rfl) fun H2 e2 => do_cons (do_ev (ev_var rfl) fun H3 e3 => do_nil ⟨p, c, t, pu1.ex (e2.trans e3), by omega, .inr ⟨l, us, rfl, .inl (sq_of ((e2.trans e3) _ _ hl)), lp, lc, by omega, by omega, fun k x H4 hx o4 pu4 => ?_⟩⟩))
    obtain ⟨en, hen, ca, cb, cv, rfl, s1, s2, tcv⟩ := paired_at pr hx
    have e13 := e2.trans e3
    have pu3 := pu1.ex e13
    have o04 : Off H H4 p c := ((Off.of_ex e1).trans (.of_ex e13)).trans o4
    have et14 : ET K H1 H4 := ET.trans (Dw.Ex.et e13) (o4.et pu3)
    obtain ⟨pq, epq, hat⟩ := met_at b [] en (List.mem_of_getElem? hen)
    rw [List.nil_append] at epq
    have lenp := (met_ok (sg := sg) b [] ok en (List.mem_of_getElem? hen)).2
    rw [List.length_nil, Nat.zero_add] at lenp
    refine ⟨ca, _, rfl, et14 _ _ s1, rfl, _, _, rfl, _, _, rfl, rfl, ?_⟩
    have s24 := et14 _ _ s2
    show tSeq _ _ _ [some (.ref p), some (.ref sa), some v, some (.ref l), some (.ref cb), some cv, none, none, none, none] H4
    refine do_setG ?_
    have sq4 := o04.et pu _ _ sqS
    refine do_cons (do_ev (ev_var rfl) fun H5 e5 => do_cons (do_ev (ev_var rfl) fun H6 e6 => do_nil ⟨p, c, t + 1, pu4.ex (e5.trans e6), by omega, .inr ⟨sa, ps.map V.ref, rfl, .inr (ex_t (e5.trans e6) sq4), sap, sac, by rw [List.length_map]; omega, by rw [List.length_map]; omega, fun k2 x2 H7 hx2 o7 pu7 => ?_⟩⟩))
    obtain ⟨r, er, hr'⟩ : ∃ r, ps[k2]? = some r ∧ x2 = .ref r := by
      rw [List.getElem?_map] at hx2
      cases hk : ps[k2]? with
      | none =>
        rw [hk] at hx2
        cases hx2
      | some r =>
        rw [hk] at hx2
        exact ⟨r, rfl, (Option.some.inj hx2).symm⟩
    subst hr'
    obtain ⟨dd, ed, hdd⟩ := paired_at prs er
    have memd : dd ∈ sg := List.mem_iff_getElem?.mpr ⟨k2, ed⟩
    obtain ⟨fn, pl⟩ := dd
    have pl2 : pl ≤ 2 := so.pl _ memd
    have e46 := e5.trans e6
    have o07 : Off H H7 p c := (o04.trans (.of_ex e46)).trans o7
    refine ⟨r, _, rfl, o07.et pu _ _ hdd, rfl, _, _, rfl, _, _, rfl, rfl, ?_⟩
    have s27 := (o7.et (pu4.ex e46)) _ _ (ex_t e46 s24)
    show tSeq _ _ _ [some (.ref p), some (.ref sa), some v, some (.ref l), some (.ref cb), some cv, some (.str fn), some (vi pl), none, none] H7
    refine do_set (do_tup (do_cons (do_ev ev_c fun H8 e8 => do_cons (do_cons (do_ev (ev_var rfl) fun H9 e9 => do_cons (do_ev ev_c fun H10 e10 => do_nil ⟨p, c, t + 2, pu7.ex ((e8.trans e9).trans e10), by omega, .inl ⟨"uvwxyz", rfl, by decide, by decide, fun k3 d3 H11 hz o11 pu11 => do_nil ⟨by show 2 ≤ sizeLine; decide, fun lf nlf => ?_⟩⟩⟩))))))
    have xm := six_mem hz
    generalize (⟨#[d3]⟩ : Str) = xl at *
    have e710 := (e8.trans e9).trans e10
    have x12 : Ex H11 (upd H11 lf (.tup [.str "var", .str xl])) := Ex.new nlf
    have hlf : (upd H11 lf (.tup [.str "var", .str xl])) lf = some (.tup [.str "var", .str xl]) := upd_same
    generalize upd H11 lf (.tup [.str "var", .str xl]) = H12 at *
    have o12 : Off H H12 p c := ((o07.trans (.of_ex e710)).trans o11).trans (.of_ex x12)
    have pu12 := pu11.ex x12
    have s212 := ex_t x12 ((o11.et (pu7.ex e710)) _ _ (ex_t e710 s27))
    have tv12 := tv.off pu o12
    have L12 : Lf K H12 lf xl := ⟨hlf, xm⟩
    have nm := so.nm _ memd
    obtain ⟨g, g5, ga⟩ := name_gd nm
    show tSeq _ _ _ [some (.ref p), some (.ref sa), some v, some (.ref l), some (.ref cb), some cv, some (.str fn), some (vi pl), some (.ref lf), none] H12
    refine q_asgP (ep_thl (K := K) (sg := sg) (n := 10) (Ex.refl H12) (eth_cons (ep_th2 (cd := .str "t") (fun _ => .str _) rfl (by decide) (gd_s (by decide)) rfl) (eth_cons (ep_th2 (cd := .str "xy") (fun _ => .str _) rfl (by decide) (gd_s (by decide)) rfl) (eth_cons (ep_th2 (cd := .str "") (fun _ => .str _) rfl (by decide) (gd_s (by decide)) rfl) (eth_cons (ep_th2 (cd := .int 1) (fun _ => .int _) rfl (by decide) gd_1 rfl) (eth_cons ep_th1 (eth_cons ep_thVx (eth_cons (ep_thC (fun _ => .non) (fun _ => .non) gd_none rfl) (eth_cons (ep_thC (fun _ => .int _) (fun _ => .int _) gd_7 rfl) (eth_cons (ep_thC (fun _ => .str _) (fun _ => .str _) (gd_s (by decide)) rfl) (eth_cons ep_th0 eth_nil)))))))))) (by decide)) fun l1 H13 e13 h13 => ?_
    show tSeq _ _ _ [some (.ref p), some (.ref sa), some v, some (.ref l), some (.ref cb), some cv, some (.str fn), some (vi pl), some (.ref lf), some l1] H13
    have L13 := L12.ex e13
    refine q_asgP (ep_thn (K := K) (sg := sg) (n := 10) (m := 4) (i := 9) e13 rfl h13.now (ep_thl e13 (eth_cons (ep_thK (k := ((pl : Nat) : Int) + 1) (j := pl + 1) (ev_var rfl) (ev_var rfl) (fun _ _ => ev_op (ev_var rfl) ev_c rv_I0) (by omega) (by omega) (by omega) L13 g (by omega)) (eth_cons (ep_thL (j := pl) (ev_var rfl) (ev_var rfl) (ev_var rfl) L13 g (by omega)) (eth_cons (ep_thN (ev_var rfl) g) (eth_cons (ep_ev (ev_var rfl) fun _ e => (L13.ex e).th) eth_nil)))) (by decide)) (by decide)) fun l2 H14 e14 h14 => ?_
    show tSeq _ _ _ [some (.ref p), some (.ref sa), some v, some (.ref l), some (.ref cb), some cv, some (.str fn), some (vi pl), some (.ref lf), some l2] H14
    have e1214 := e13.trans e14
    have L14 := L12.ex e1214
    refine q_asgP (ep_thn (K := K) (sg := sg) (n := 14) (m := 3) (i := 9) e1214 rfl h14.now (ep_thl e1214 (eth_cons (ep_ev ev_c fun _ _ => th_odd (.fl (.bl true) rfl) (.tup (.bl true)) ((gd_bool true).mono (by decide) (by decide))) (eth_cons (ep_thK (k := ((pl : Nat) : Int) - 1) (j := pl - 1) (ev_var rfl) (ev_var rfl) (fun _ _ => ev_op (ev_var rfl) ev_c rv_I0) (by omega) (by omega) (by omega) L14 g (by omega)) (eth_cons (ep_thK (f := fn ++ "a") (k := ((pl : Nat) : Int)) (j := pl) (ev_op (ev_var rfl) ev_c (rv_addS (by have l4 : fn.length ≤ 4 := nm.l4; show fn.length + 1 ≤ 100000; omega))) (ev_var rfl) (fun _ _ => ev_var rfl) (by omega) (by omega) (by omega) L14 ga (by omega)) eth_nil))) (by decide)) (by decide)) fun l3 H15 e15 h15 => ?_
    show tSeq _ _ _ [some (.ref p), some (.ref sa), some v, some (.ref l), some (.ref cb), some cv, some (.str fn), some (vi pl), some (.ref lf), some l3] H15
    obtain ⟨al, xs, Hm, rfl, hal, lxs, eb, nal, em, all⟩ := h15
    refine do_seq (do_app (K := K) hal (ev_var rfl) fun H16 e16 => ep_t3 (K := K) (v1 := .str "deed") (P2 := fun v _ => v = .str "x") ev_c (ep_ev ev_c fun _ _ => rfl) (rp0 (K := K) (eu_tup ea_nil (by show 0 ≤ 100000; decide))) (fun _ _ _ _ h => h) (fun _ _ _ e h => h.ex e) H16 (Ex.refl _) _ fun v1 H17 e17 hv1 => ?_)
    obtain ⟨a1, y1, z1, rfl, t1, rfl, r1⟩ := hv1
    refine ⟨al, xs, .ref a1, rfl, rfl, (e16.trans e17) _ _ hal, sz_lt (by omega), ?_⟩
    have et1 : ET K H17 (upd H17 al (.lst (xs ++ [.ref a1]))) := ET.refl.upd ((e16.trans e17) _ _ hal)
    have em1 : Ex Hm (upd H17 al (.lst (xs ++ [.ref a1]))) := (em.trans (e16.trans e17)).mut nal
    have hal1 : (upd H17 al (.lst (xs ++ [V.ref a1]))) al = some (.lst (xs ++ [V.ref a1])) := upd_same
    have t11 := et1 _ _ t1
    have r11 : RpT K (upd H17 al (.lst (xs ++ [V.ref a1]))) z1 [] := let ⟨b, q, s⟩ := r1; ⟨b, q, et1 _ _ s⟩
    generalize upd H17 al (.lst (xs ++ [V.ref a1])) = H18 at *
    show tSeq _ _ _ [some (.ref p), some (.ref sa), some v, some (.ref l), some (.ref cb), some cv, some (.str fn), some (vi pl), some (.ref lf), some (.ref al)] H18
    refine do_seq (do_app (K := K) hal1 (ev_var rfl) fun H19 e19 => ep_w3 (K := K) (z := "Deed") (f := fn) (lf := lf) (k := ((pl : Nat) : Int)) (j := pl) (ev_var rfl) (ev_var rfl) (fun _ _ => ev_var rfl) (by omega) (by omega) (by omega) H19 (Ex.refl _) _ fun v2 H20 e20 hv2 => ?_)
    obtain ⟨a2, y2, rfl, t2, r2⟩ := hv2
    refine ⟨al, xs ++ [.ref a1], .ref a2, rfl, rfl, (e19.trans e20) _ _ hal1, sz_lt (by rw [List.length_append]; show _ + 1 < 100000; omega), ?_⟩
    have e1820 := e19.trans e20
    have et2 : ET K H20 (upd H20 al (.lst (xs ++ [.ref a1] ++ [.ref a2]))) := ET.refl.upd (e1820 _ _ hal1)
    have em2 : Ex Hm (upd H20 al (.lst (xs ++ [.ref a1] ++ [.ref a2]))) := (em1.trans e1820).mut nal
    have hal2 : (upd H20 al (.lst (xs ++ [V.ref a1] ++ [V.ref a2]))) al = some (.lst (xs ++ [V.ref a1] ++ [V.ref a2])) := upd_same
    have t12 := et2 _ _ (ex_t e1820 t11)
    have t22 := et2 _ _ t2
    have r12 : RpT K (upd H20 al (.lst (xs ++ [V.ref a1] ++ [V.ref a2]))) z1 [] := let ⟨b, q, s⟩ := r11; ⟨b, q, et2 _ _ (ex_t e1820 s)⟩
    have r22 : RpT K (upd H20 al (.lst (xs ++ [V.ref a1] ++ [V.ref a2]))) y2 (List.replicate pl (.ref lf)) := let ⟨b, q, s⟩ := r2; ⟨b, q, et2 _ _ s⟩
    generalize upd H20 al (.lst (xs ++ [V.ref a1] ++ [V.ref a2])) = H21 at *
    have x21 : Ex H12 H21 := eb.trans em2
    have L21 := L12.ex x21
    have all21 : ∀ x ∈ xs ++ [V.ref a1] ++ [V.ref a2], ThB K H21 sg x := fun x hx => by
      rcases List.mem_append.mp hx with hx | hx
      · rcases List.mem_append.mp hx with hx | hx
        · exact (all x hx).ex em2
        · rw [List.mem_singleton.mp hx]
          exact th_many (k := 0) t12 r12 L21 (gd_s (by decide)) (by decide)
      · rw [List.mem_singleton.mp hx]
        exact th_three (k := pl) (by decide) t22 r22 L21 (gd_s (by decide)) g (by omega)
    show tSeq _ _ _ [some (.ref p), some (.ref sa), some v, some (.ref l), some (.ref cb), some cv, some (.str fn), some (vi pl), some (.ref lf), some (.ref al)] H21
    refine q_asgP (ep_thn (K := K) (sg := sg) (n := 19) (m := 4) (i := 9) x21 rfl ⟨al, _, rfl, hal2, by rw [List.length_append, List.length_append]; show _ + 1 + 1 = 19; omega, all21⟩ (ep_thl x21 (eth_cons (ep_th4 (j := pl) (ev_var rfl) (ev_var rfl) (fun _ _ => ev_var rfl) L21 g (by omega)) (eth_cons ep_thVL (eth_cons ep_th7 (eth_cons (ep_thNo (ev_var rfl) L21) eth_nil)))) (by decide)) (by decide)) fun l4 H22 e22 h22 => ?_
    show tSeq _ _ _ [some (.ref p), some (.ref sa), some v, some (.ref l), some (.ref cb), some cv, some (.str fn), some (vi pl), some (.ref lf), some l4] H22
    have x22 := x21.trans e22
    refine q_asgP (ep_thn (K := K) (sg := sg) (n := 23) (m := 4) (i := 9) x22 rfl h22.now (ep_thl x22 (eth_cons (ep_thNs (j := pl) (ev_var rfl) (fun _ _ => ev_var rfl) memd (by omega)) (eth_cons (ep_thT (ev_var rfl) g5) (eth_cons (ep_th2 (fun _ => .non) rfl (by decide) gd_none rfl) (eth_cons (ep_thDN (ev_var rfl) g) eth_nil)))) (by decide)) (by decide)) fun l5 H23 e23 h23 => ?_
    show tRet _ _ [some (.ref p), some (.ref sa), some v, some (.ref l), some (.ref cb), some cv, some (.str fn), some (vi pl), some (.ref lf), some l5] H23
    have x23 := x22.trans e23
    obtain ⟨bl, ys, Hn, rfl, hbl, lys, fb, nbl, fm, ally⟩ := h23
    obtain ⟨blp, blc⟩ := (pu12.ex fb).fresh nbl
    refine do_ret (do_cons (do_ev (ev_var rfl) fun H24 e24 => do_cons (do_ev (ev_var rfl) fun H25 e25 => do_cons (do_cons (do_ev (ev_var rfl) fun H26 e26 => do_cons (do_ev (ev_var rfl) fun H27 e27 => do_nil ⟨p, c, t + 3, pu12.ex (x23.trans ((e24.trans e25).trans (e26.trans e27))), by omega, .inr ⟨bl, ys, rfl, .inl (sq_of (((e24.trans e25).trans (e26.trans e27)) _ _ hbl)), blp, blc, by omega, by omega, fun k4 x4 H28 hx4 o28 pu28 => do_nil ?_⟩⟩))))))
    have e2327 := (e24.trans e25).trans (e26.trans e27)
    have x27 := x23.trans e2327
    have pu27 := pu12.ex x27
    obtain ⟨ob, bo, oo, fo, so4⟩ := (ally x4 (List.mem_of_getElem? hx4)).ex (fm.trans e2327)
    have bo28 := bo.off pu27 o28
    have o1228 : Off H12 H28 p c := (Off.of_ex x27).trans o28
    have us1 := bsz1 en.2
    obtain ⟨ro, rf, rs⟩ := brep_all oo fo hat ok fi
    rw [epq] at s212 lenp
    refine ⟨LQ.mk sg b pq en.2 ob, ⟨⟨v, cb, x4, rfl, tv12.off pu12 o1228, o1228.et pu12 _ _ s212, bo28⟩, hat, by show pq.length < 70; omega, by show b.sz ≤ 100; omega⟩, fun rv H29 e29 hr29 => q rv (brep pq b ob) H29 ((o12.trans o1228).trans (.of_ex e29)) (pu28.ex e29) hr29 ro rf (by omega)⟩
end
end K02
end
section
namespace K02
open PySem PySem.Spec PyProof.Rows L2 Evl RZ Dw M20
/-- what isinstance says of a NoTerm -/
structure Eight (K : PySem.W.Frag) (mg : Str → Option Value) (P0 B0 T0 a1 a2 a3 a4 a5 a6 : Addr) : Prop where
  m1 : mg "NoEquation" = some (.ref a1)
  m2 : mg "NoKind" = some (.ref a2)
  m3 : mg "NoModel" = some (.ref a3)
  m4 : mg "NoPutting" = some (.ref a4)
  m5 : mg "NoSignature" = some (.ref a5)
  m6 : mg "NoText" = some (.ref a6)
  ht : PySem.W.kitOne K (.ref T0) (.ref T0) = some true
  hs : PySem.W.kitAny K (.ref T0) [.ref a1, .ref a2, .ref a3, .ref P0, .ref a4, .ref a5, .ref a6, .ref B0] = some false
  hv : PySem.W.kitOne K (.ref T0) (.type "ValueError") = some true
section
variable {P : Program} {w : World} {K : PySem.W.Frag} {mg : Str → Option Value} {base : Heap} {σ : L2.St} {H H' Hb : Hp} {P0 B0 T0 G0 a1 a2 a3 a4 a5 a6 : Addr} {sg : List (Str × Nat)}
def sp_refusedE (K : PySem.W.Frag) : Sp := spX (fun (q : Nat × List (Str × Nat) × Bt) vs H => (∃ u v, vs = [vi q.1, u, v] ∧ FSig K H u q.2.1 ∧ BtV K H q.2.1 q.2.2 v) ∧ q.1 < 5 ∧ SigOk q.2.1 ∧ q.2.2.ok q.2.1 ∧ q.2.2.sz ≤ 100 ∧ wrongL (q.2.2.met []) ≠ .none) (fun _ v _ => v = .bl true)
theorem c_refusedE (T : Txt mg) (D : Df K mg "_law_refused" s__law_refused ["_law_which", "_law_deeds_here", "_law_piece"]) (er : Ers K mg P0 B0 T0 G0) (sx : Eight K mg P0 B0 T0 a1 a2 a3 a4 a5 a6) (c_variables_inX : ClX P w K mg base 8 "variables_in" (spE T0 (WPre K))) (c_paths_inX : ClX P w K mg base 8 "paths_in" (spE T0 (WPre K))) (c_letteredX : ClX P w K mg base 8 "lettered" (spE T0 (WPre K))) (c_term_textX : ClX P w K mg base 8 "term_text" (spE T0 (WPre K))) (c_put_inA : ClX P w K mg base 8 "put_in" (spE T0 (WPre3 K))) : Cl P w K mg base 9 "_law_refused" (sp_refusedE K) := by
  refine cl_of (k := 8) D sc__law_refused (fun vs H Q E h => ?_) (fun f cdv A outer s H vs Q E hr h => ?_)
  · obtain ⟨q, ⟨⟨u, v, rfl, _⟩, _⟩, _⟩ := h
    rfl
  · obtain ⟨⟨which, sg, t⟩, ⟨⟨sv, v, rfl, hF, tv⟩, w5, so, ok, small, bad⟩, q⟩ := h
    refine ⟨_, (pss_cons (ps_set (i := 3) sc__law_refused.nd rfl (.inl rfl) pe_non)
      (pss_cut (ps_try_trk (i := 4) rfl rfl rfl sc__law_refused.nd rfl rfl ⟨rfl, by decide, .inl er.g⟩ (fun W pn xe tk _ => (pss_cons (ps_if (pt_cmpR op_eq (pv 0) pe_int (nomark _)) (pss_one (ps_expr (pe_clX c_variables_inX tk hr (by first | decide | omega) (by rfl) (pa_cons (pv 1) (pa_cons (pv 2) pa_nil))))) pss_nil) (pss_cons (ps_if (pt_cmpR op_eq (pv 0) pe_int (nomark _)) (pss_one (ps_expr (pe_clX c_paths_inX tk hr (by first | decide | omega) (by rfl) (pa_cons (pv 1) (pa_cons (pv 2) pa_nil))))) pss_nil) (pss_cons (ps_if (pt_cmpR op_eq (pv 0) pe_int (nomark _)) (pss_one (ps_expr (pe_clX c_letteredX tk hr (by first | decide | omega) (by rfl) (pa_cons (pv 1) (pa_cons (pv 2) pa_nil))))) pss_nil) (pss_cons (ps_if (pt_cmpR op_eq (pv 0) pe_int (nomark _)) (pss_one (ps_expr (pe_clX c_term_textX tk hr (by first | decide | omega) (by rfl) (pa_cons (pv 1) (pa_cons (pv 2) pa_nil))))) pss_nil) (pss_one (ps_if (pt_cmpR op_eq (pv 0) pe_int (nomark _)) (pss_one (ps_expr (pe_clX c_put_inA tk hr (by first | decide | omega) (by rfl) (pa_cons (pv 1) (pa_cons (pv 2) (pa_cons (pe_disp (pps_cons pe_str pe_non pps_nil) rfl rfl (List.cons_ne_nil _ _) (Nat.le_of_ble_eq_true rfl)) pa_nil)))))) pss_nil))))))) (fun a pn => pss_one (ps_set (i := 3) sc__law_refused.nd rfl (.inl rfl) (pv 4))))
      (pss_cons (ps_if (pt_val (pe_callB call_isCT (by rfl) T.z_isinstance (by decide +kernel) (pa_cons (pv 3) (pa_cons (pe_tup (pa_cons (pe_gv (by rfl) sx.m1) (pa_cons (pe_gv (by rfl) sx.m2) (pa_cons (pe_gv (by rfl) sx.m3) (pa_cons (pe_gv (by rfl) er.p.g) (pa_cons (pe_gv (by rfl) sx.m4) (pa_cons (pe_gv (by rfl) sx.m5) (pa_cons (pe_gv (by rfl) sx.m6) (pa_cons (pe_gv (by rfl) er.b.g) pa_nil))))))))) pa_nil))))
        (pss_one (ps_ret pe_bl))
        pss_nil)
      (pss_one (ps_ret (pe_and (pe_callB call_isC (by rfl) T.z_isinstance (by decide +kernel) (pa_cons (pv 3) (pa_cons (pe_gv (by rfl) er.t.g) pa_nil))) (pe_one (pe_callB call_isC (by rfl) T.z_isinstance (by decide +kernel) (pa_cons (pv 3) (pa_cons (pe_ty "ValueError" (by rfl) T.z_ValueError (by decide +kernel)) pa_nil)))))))))), ?_⟩
    replace hF : FSig K H sv sg := hF
    replace tv : BtV K H sg t v := tv
    replace so : SigOk sg := so
    replace ok : t.ok sg := ok
    replace small : t.sz ≤ 100 := small
    replace bad : wrongL (t.met []) ≠ .none := bad
    replace w5 : which < 5 := w5
    replace q : ∀ r H', Ex H H' → r = .bl true → Q r H' := q
    refine q_asg ev_c fun H1 e1 => ?_
    refine q_cut (M := fun σ' H' => Ex H H' ∧ ∃ (c : Addr), TyC K H' (.ref c) (.ref T0) ∧ σ' = [some (vi which), some sv, some v, some (.ref c), none]) ?_ (fun σ' H' hM => ?_)
    · show tSeq _ _ _ [some (vi which), some sv, some v, some .non, none] H1
      have eq0 : ∀ {n : Nat} {H2 : Hp}, EvT (tTest (tOp rEq (tVar 0) (tC (.int n)))) [some (vi which), some sv, some v, some .non, none] H2 (decide (which = n)) := fun {n H2} => et_is (et_test (ev_op (ev_var rfl) ev_c (rv_eq rfl))) (by
        show decide (V.int (which : Int) = V.int (n : Int)) = decide (which = n)
        by_cases e : which = n
        · rw [decide_eq_true e, decide_eq_true (by rw [e])]
        · rw [decide_eq_false e, decide_eq_false (fun z => e (by
            injection z with z
            omega))])
      have kept : ∀ {H4 : Hp}, Ex H H4 → ∀ a, H4 a = none → ∀ H5, Ex (upd H4 a (ExcAt a (.ref T0) none)) H5 → (Ex H H5 ∧ ∃ (c : Addr), TyC K H5 (.ref c) (.ref T0) ∧ [some (vi which), some sv, some v, some (.ref a), none] = [some (vi which), some sv, some v, some (.ref c), none]) := fun {H4} e4 a na H5 e5 => ⟨(e4.trans (Ex.new na)).trans e5, a, .inr ⟨a, T0, rfl, e5 _ _ upd_same, er.t.c, rfl⟩, rfl⟩
      have pre : ∀ {H4 : Hp}, Ex H H4 → WPre K (sg, t) [sv, v] H4 := fun {H4} e4 => ⟨⟨⟨_, _, rfl, hF.ex e4, tv.ex e4⟩, so, ok, small⟩, bad⟩
      have five : which = 0 ∨ which = 1 ∨ which = 2 ∨ which = 3 ∨ which = 4 := by omega
      rcases five with rfl | rfl | rfl | rfl | rfl
      · refine q_when (b := true) eq0 (fun _ H2 e2 => ?_) (fun hb => by cases hb)
        exact do_callS (ea_cons (ev_var rfl) (ea_cons (ev_var rfl) ea_nil) H2 (Ex.refl _) _ fun I1 f1 => ⟨(sg, t), pre ((e1.trans e2).trans f1), fun I2 f2 => ⟨er.xt, fun a na => s_asg (ev_var rfl) fun I3 f3 => kept (((e1.trans e2).trans f1).trans f2) a na I3 f3⟩⟩)
      · refine q_when (b := false) eq0 (fun hb => by cases hb) (fun _ H2 e2 => ?_)
        refine q_when (b := true) eq0 (fun _ H3 e3 => ?_) (fun hb => by cases hb)
        exact do_callS (ea_cons (ev_var rfl) (ea_cons (ev_var rfl) ea_nil) H3 (Ex.refl _) _ fun I1 f1 => ⟨(sg, t), pre (((e1.trans e2).trans e3).trans f1), fun I2 f2 => ⟨er.xt, fun a na => s_asg (ev_var rfl) fun I3 f3 => kept ((((e1.trans e2).trans e3).trans f1).trans f2) a na I3 f3⟩⟩)
      · refine q_when (b := false) eq0 (fun hb => by cases hb) (fun _ H2 e2 => ?_)
        refine q_when (b := false) eq0 (fun hb => by cases hb) (fun _ H3 e3 => ?_)
        refine q_when (b := true) eq0 (fun _ H4 e4 => ?_) (fun hb => by cases hb)
        exact do_callS (ea_cons (ev_var rfl) (ea_cons (ev_var rfl) ea_nil) H4 (Ex.refl _) _ fun I1 f1 => ⟨(sg, t), pre ((((e1.trans e2).trans e3).trans e4).trans f1), fun I2 f2 => ⟨er.xt, fun a na => s_asg (ev_var rfl) fun I3 f3 => kept (((((e1.trans e2).trans e3).trans e4).trans f1).trans f2) a na I3 f3⟩⟩)
      · refine q_when (b := false) eq0 (fun hb => by cases hb) (fun _ H2 e2 => ?_)
        refine q_when (b := false) eq0 (fun hb => by cases hb) (fun _ H3 e3 => ?_)
        refine q_when (b := false) eq0 (fun hb => by cases hb) (fun _ H4 e4 => ?_)
        refine q_when (b := true) eq0 (fun _ H5 e5 => ?_) (fun hb => by cases hb)
        exact do_callS (ea_cons (ev_var rfl) (ea_cons (ev_var rfl) ea_nil) H5 (Ex.refl _) _ fun I1 f1 => ⟨(sg, t), pre (((((e1.trans e2).trans e3).trans e4).trans e5).trans f1), fun I2 f2 => ⟨er.xt, fun a na => s_asg (ev_var rfl) fun I3 f3 => kept ((((((e1.trans e2).trans e3).trans e4).trans e5).trans f1).trans f2) a na I3 f3⟩⟩)
      · refine q_when (b := false) eq0 (fun hb => by cases hb) (fun _ H2 e2 => ?_)
        refine q_when (b := false) eq0 (fun hb => by cases hb) (fun _ H3 e3 => ?_)
        refine q_when (b := false) eq0 (fun hb => by cases hb) (fun _ H4 e4 => ?_)
        refine q_when (b := false) eq0 (fun hb => by cases hb) (fun _ H5 e5 => ?_)
        refine s_when (b := true) eq0 (fun _ H6 e6 => ?_) (fun hb => by cases hb)
        refine do_callS (do_cons (do_ev (ev_var rfl) fun I1 f1 => do_cons (do_ev (ev_var rfl) fun I2 f2 => do_cons (fun dp ndp => do_ev ev_c fun I3 f3 => do_ev ev_c fun I4 f4 => ⟨f4 _ _ (f3 _ _ upd_same), [(.inr "x", .non)], rfl, by decide, do_nil ?_⟩))))
        have g4 : Ex H (upd I4 dp (.dK (mergeK [] [(.inr "x", .non)]))) := (((((((e1.trans e2).trans e3).trans e4).trans e5).trans e6).trans (f1.trans f2)).trans (((Ex.new (o := .dK []) ndp).trans (f3.trans f4)).mut ndp))
        exact ⟨(sg, t), ⟨⟨sv, v, .ref dp, rfl, hF.ex g4, tv.ex g4⟩, so, ok, small, bad⟩, fun I5 f5 => ⟨er.xt, fun a na => s_asg (ev_var rfl) fun I6 f6 => kept (g4.trans f5) a na I6 f6⟩⟩
    · obtain ⟨e2, c, tc, hσ⟩ := hM
      subst hσ
      refine q_when (b := false) (et_val ?_) (fun hb => by cases hb) (fun _ H4 e4 => ?_)
      · intro H4 e4 Q4 q4
        refine do_cb (do_cons (do_ev (fun H5 e5 => ev_var rfl H5 (e4.trans e5)) fun H5 e5 => do_cons (do_tup (do_cons (do_ev ev_c fun I1 f1 => do_cons (do_ev ev_c fun I2 f2 => do_cons (do_ev ev_c fun I3 f3 => do_cons (do_ev ev_c fun I4 f4 => do_cons (do_ev ev_c fun I5 f5 => do_cons (do_ev ev_c fun I6 f6 => do_cons (do_ev ev_c fun I7 f7 => do_cons (do_ev ev_c fun I8 f8 => do_nil ⟨by show 8 ≤ sizeLine; decide, fun tp ntp => do_nil ?_⟩))))))))))))
        have g6 := (((e5.trans f1).trans (f2.trans f3)).trans ((f4.trans f5).trans f6)).trans (f7.trans f8)
        exact ⟨.ref c, tp, _, .ref T0, _, false, rfl, upd_same, .cons (.own _) (.cons (.own _) (.cons (.own _) (.cons (.own _) (.cons (.own _) (.cons (.own _) (.cons (.own _) (.cons (.own _) .nil))))))), tc.ex (e4.trans (g6.trans (Ex.new ntp))), sx.hs, q4 _ (g6.trans (Ex.new ntp))⟩
      refine s_ret (v := .bl true) (ev_andV (a := true) (b := true) (ev_isC (ev_var rfl) ev_c (.own _) (tc.ex e4) sx.ht) (fun _ => ev_isC (ev_var rfl) ev_c (.ty _) (tc.ex e4) sx.hv)) fun H5 e5 => q _ H5 ((e2.trans e4).trans e5) rfl
end
end K02
end
section
namespace K02
open PySem PySem.Spec PyProof.Rows L2 Evl RZ Dw M20
section
variable {P : Program} {w : World} {K : PySem.W.Frag} {mg : Str → Option Value} {base : Heap} {σ : L2.St} {H : Hp} {P0 B0 T0 G0 a1 a2 a3 a4 a5 a6 : Addr} {sg : List (Str × Nat)}
theorem do_and {t u : TT} {Q : Bool → Hp → Prop} (h : t σ H fun b H1 => if b = true then u σ H1 Q else Q false H1) : tAnd t u σ H Q := h
theorem rv_ne' {x y : V} (h : scal x y = true) (e : x = y) : RV rNe x y H (.bl false) := by
  subst e
  have z := rv_ne (H := H) h
  rw [show (!decide (x = x)) = false by simp] at z
  exact z
theorem ev_reprW {X : Cx} {te : TE} {d : PyData} {k W : Nat} (hg : X.A.guards = some []) (hK : X.K = K) (h : EvP te σ H fun v H' => Dp K H' v d) (g : Gd k W d) (hk : k ≤ 190) (hW : W ≤ 1000000) : Ev (tCB (rReprW X) (tCons te tNil)) σ H (.str d.shown) := by
  subst hK
  intro H1 e1 Q q
  exact do_cb (do_cons (h H1 e1 _ fun v H2 e2 hv => do_nil ⟨v, d, rfl, hv, hg, g.sho, PyData.hasDict_of_canLay _ g.lay, Nat.le_trans g.dep hk, g.gs.len hW, q H2 e2⟩))
theorem BAt.low (so : SigOk sg) : ∀ {p : List Nat} {t u : Bt}, BAt p t u → t.ok sg → gdN p := by
  intro p t u h
  induction h with
  | here t => exact fun _ k hk => by cases hk
  | @down k p f ts v u hk h ih =>
    intro ok j hj
    rw [Bt.ok] at ok
    have il := (List.getElem?_eq_some_iff.mp hk).1
    have pl : ts.length ≤ 2 := so.pl _ ok.1
    rcases List.mem_cons.mp hj with e | e
    · rw [e]
      omega
    · have e2 := (List.getElem?_eq_some_iff.mp hk).2
      exact ih (by rw [← e2]; exact boks_get il ok.2) j e
theorem gd_wrong (so : SigOk sg) {t : Bt} (ok : t.ok sg) (s : t.sz ≤ 70) : Gd 7 2000 (wrongL (t.met [])) := by
  rw [wrongL]
  split
  · rename_i e he
    have mem := List.mem_of_find?_eq_some he
    obtain ⟨q, eq, hat⟩ := met_at t [] e mem
    rw [List.nil_append] at eq
    have ln := (met_ok (sg := sg) t [] ok e mem).2
    rw [List.length_nil] at ln
    have lo : gdN e.1 := by
      rw [eq]
      exact hat.low so ok
    have g1 := gd_tup (k := 0) (W := 10) (L := 70) (gd_nats lo) (by rw [natsD, List.length_map]; omega)
    have g2 : Gd 0 4 (.str ("term" : Str)) := gd_strB (by decide) (by decide)
    exact (gd_tup (k := 1) (W := 770) (L := 2) (mem2 (g2.mono (by decide) (by decide)) (g1.mono (by decide) (by decide))) (Nat.le_refl 2)).mono (by decide) (by decide)
  · split
    · have g2 : Gd 0 100 (.str ("parts" : Str)) := gd_str (by decide) (by decide)
      exact (gd_tup (k := 0) (W := 100) (L := 1) (mem1 g2) (Nat.le_refl 1)).mono (by decide) (by decide)
    · exact gd_none.mono (by decide) (by decide)
abbrev lawN : List Str := ["_law_script", "_law_purse_here", "_law_turn", "_law_deeds_here", "_law_piece", "_law_many", "_law_name", "_law_places", "_law_again", "_law_kept", "_law_due_here", "_law_which"]
/-- ahead of each turn -/
def Turn (a p c : Addr) (i : Nat) (σ : L2.St) (H : Hp) : Prop := (∃ t, Pur H p c t ∧ t ≤ 400 * i) ∧ ∃ y2 y3 y4 y5 y6 y7 y8 y9 y10 : Option V, σ = [some (.ref a), some (.ref p), y2, y3, y4, y5, y6, y7, y8, y9, y10, none]
theorem law_ok (T : Txt mg) (c_purse : Cl P w K mg base 1 "_law_purse" (sp_purse K)) (c_deeds : Cl P w K mg base 3 "_law_deeds" (sp_deeds K)) (c_letters : Cl P w K mg base 2 "_law_letters" sp_letters) (c_grown : Cl P w K mg base 8 "_law_grown" (sp_grown K 5)) (c_draw : Cl P w K mg base 1 "_law_draw" sp_draw) (c_sized : Cl P w K mg base 1 "_law_sized" (sp_sized K)) (c_combed : Cl P w K mg base 1 "_law_combed" (sp_combed K)) (c_fits : Cl P w K mg base 1 "_law_fits" (sp_fits K)) (c_bent : Cl P w K mg base 73 "_law_bent" (sp_bent K)) (c_due : Cl P w K mg base 73 "_law_due" (sp_due K)) (c_term_any : Cl P w K mg base 6 "term_wrong" (sp_term_any K)) (c_refusedE : Cl P w K mg base 9 "_law_refused" (sp_refusedE K))
    (room : Room 75 callerA) (s : Shared) (H : Hp) (fa : Addr) (cdv : Value) (a : Addr) (ns : List Int) (len : ns.length ≤ 63) (seq : SqL K H a (ns.map V.int)) :
    ∃ t, PSs (cxOf CX0 P w K mg base lawN "law" (defScope s_law) fa cdv callerA [] s H E0).nox (defBody s_law) t ∧ t { nx := fun _ _ => False, rt := fun v _ => v = .bl true } (L2.start lawN [.ref a]) H := by
  have hr : Room 74 (callerA.deeper (envOfC "law" (defScope s_law) s.heap.objs.size fa cdv)) := room.deeper _
  have c_term_wrong := c_term_any
  have c_refused := c_refusedE
  refine ⟨_, (pss_cons (ps_set (i := 1) sc_law.nd rfl (.inl rfl) (pe_cl c_purse hr (by first | decide | omega) (by rfl) (pa_cons (pv 0) pa_nil)))
      (pss_cons (ps_if (pt_cmpR op_ne (pe_gi (by rfl) T.c_MOST_PARTS) pe_int (nomark _))
        (pss_one (ps_ret pe_bl))
        pss_nil)
      (pss_cons (ps_for PassesOwn.never (by rfl) (pi_range1 (by rfl) T.z_range (pa_cons pe_int pa_nil)) (pg_name (i := 2) sc_law.nd rfl (.inl rfl))
        (pss_cons (ps_set (i := 3) sc_law.nd rfl (.inr rfl) (pe_cl c_deeds hr (by first | decide | omega) (by rfl) (pa_cons (pv 1) pa_nil)))
        (pss_cons (ps_set (i := 4) sc_law.nd rfl (.inr rfl) (pe_cl c_grown hr (by first | decide | omega) (by rfl) (pa_cons (pv 1) (pa_cons (pv 3) (pa_cons (pe_cl c_letters hr (by first | decide | omega) (by rfl) (pa_cons (pv 1) (pa_cons pe_int pa_nil))) (pa_cons pe_int pa_nil))))))
        (pss_cons (ps_set (i := 5) sc_law.nd rfl (.inl rfl) (pe_op op_add pe_int (pe_cl c_draw hr (by first | decide | omega) (by rfl) (pa_cons (pv 1) (pa_cons pe_int pa_nil)))))
        (pss_cons (ps_for PassesOwn.never (by rfl) (pi_tup (pv 3)) (pg_tup (by rfl) (pgs_cons (pg_name (i := 6) sc_law.nd rfl (.inl rfl)) (pgs_cons (pg_name (i := 7) sc_law.nd rfl (.inl rfl)) pgs_nil)))
          (pss_one (ps_if (PW.pt (pw_and (pt_cmpR op_gt (pv 7) pe_int (nomark _)) (pw_and1 (pt_cmpR op_eq (pe_cl c_draw hr (by first | decide | omega) (by rfl) (pa_cons (pv 1) (pa_cons pe_int pa_nil))) pe_int (nomark _)))))
            (pss_one (ps_set (i := 4) sc_law.nd rfl (.inr rfl) (pe_ix ix_list (pe_lst (pa_cons (pe_cl c_sized hr (by first | decide | omega) (by rfl) (pa_cons (pv 5) (pa_cons (pv 6) pa_nil))) (pa_cons (pe_cl c_combed hr (by first | decide | omega) (by rfl) (pa_cons (pv 5) (pa_cons (pv 6) pa_nil))) pa_nil))) (pe_op op_sub (pv 7) pe_int) (fun _ _ => rfl))))
            pss_nil)))
        (pss_cons (ps_for PassesOwn.never (by rfl) (pi_range1 (by rfl) T.z_range (pa_cons (pe_cl c_draw hr (by first | decide | omega) (by rfl) (pa_cons (pv 1) (pa_cons pe_int pa_nil))) pa_nil)) (pg_name (i := 8) sc_law.nd rfl (.inl rfl))
          (pss_one (ps_if (pt_val (pe_cl c_fits hr (by first | decide | omega) (by rfl) (pa_cons (pv 3) (pa_cons (pv 4) pa_nil))))
            (pss_one (ps_set (i := 4) sc_law.nd rfl (.inr rfl) (pe_cl c_bent hr (by first | decide | omega) (by rfl) (pa_cons (pv 1) (pa_cons (pv 3) (pa_cons (pv 4) pa_nil))))))
            pss_nil)))
        (pss_cons (ps_set (i := 9) sc_law.nd rfl (.inl rfl) (pe_callB (call_reprW hr) (by rfl) T.z_repr (by decide +kernel) (pa_cons (pv 4) pa_nil)))
        (pss_cons (ps_set (i := 10) sc_law.nd rfl (.inl rfl) (pe_cl c_due hr (by first | decide | omega) (by rfl) (pa_cons (pv 3) (pa_cons (pv 4) pa_nil))))
        (pss_cons (ps_if (PW.pt (pw_or (pt_cmpR op_ne (pe_callB (call_reprW hr) (by rfl) T.z_repr (by decide +kernel) (pa_cons (pe_cl c_term_wrong hr (by first | decide | omega) (by rfl) (pa_cons (pv 3) (pa_cons (pv 4) pa_nil))) pa_nil)) (pe_callB (call_reprW hr) (by rfl) T.z_repr (by decide +kernel) (pa_cons (pv 10) pa_nil)) (nomark _)) (pw_or1 (pt_cmpR op_ne (pe_callB (call_reprW hr) (by rfl) T.z_repr (by decide +kernel) (pa_cons (pe_cl c_term_wrong hr (by first | decide | omega) (by rfl) (pa_cons (pv 3) (pa_cons (pv 4) pa_nil))) pa_nil)) (pe_callB (call_reprW hr) (by rfl) T.z_repr (by decide +kernel) (pa_cons (pv 10) pa_nil)) (nomark _)))))
          (pss_one (ps_ret pe_bl))
          pss_nil)
        (pss_cons (ps_if (PW.pt (pw_and (pt_cmpR op_notN (pv 10) pe_non (nomark _)) (pw_and1 (pt_cmpR op_in_seq pe_bl (pe_lc (own := [("_law_which", 11)]) (g := (gName 11)) (by rfl) sc_law.nd (pi_range1 (by rfl) T.z_range (pa_cons pe_int pa_nil)) (blkOk_by (own := [("_law_which", 11)]) (N := ["_law_script", "_law_purse_here", "_law_turn", "_law_deeds_here", "_law_piece", "_law_many", "_law_name", "_law_places", "_law_again", "_law_kept", "_law_due_here", "_law_which"]) (sc := defScope s_law) (by decide +kernel)) (fun _ _ _ _ _ => (pg_name (i := 11) sc_law.nd rfl (.inl rfl))) (fun _ _ _ _ _ => pts_nil) (fun _ _ _ _ _ => (pe_cl c_refused hr (by first | decide | omega) (by rfl) (pa_cons (pv 11) (pa_cons (pv 3) (pa_cons (pv 4) pa_nil)))))) (by rfl)))))
          (pss_one (ps_ret pe_bl))
          pss_nil)
        (pss_one (ps_if (pt_cmpR op_ne (pe_callB (call_reprW hr) (by rfl) T.z_repr (by decide +kernel) (pa_cons (pv 4) pa_nil)) (pv 9) (nomark _))
          (pss_one (ps_ret pe_bl))
          pss_nil))))))))))))
      (pss_one (ps_ret pe_bl))))), ?_⟩
  refine do_set (ea_cons (ev_var rfl) ea_nil H (Ex.refl H) _ fun H0 e0 => ⟨a, ns, rfl, ex_l e0 seq, len, fun p c H1 e1 np nc pu => ?_⟩)
  refine q_when (b := false) (et_is (et_test (ev_op ev_c ev_c (rv_ne rfl))) (by decide)) (fun hb => by cases hb) (fun _ Hz ez => ?_)
  refine q_forR1 (n := ((6 : Nat) : Int)) (ea_cons ev_c ea_nil) ⟨by decide, by decide⟩ (Turn a p c) (fun H2 e2 => ⟨⟨0, pu.ex (ez.trans e2), Nat.zero_le _⟩, none, none, none, none, none, none, none, none, none, rfl⟩) (fun i σ H2 hi tn => ?_) (fun σ H2 tn => ?_)
  · obtain ⟨⟨t, pu2, lt⟩, y2, y3, y4, y5, y6, y7, y8, y9, y10, hσ⟩ := tn
    subst hσ
    have i6 : i < 6 := by omega
    refine do_set (ea_cons (ev_var rfl) ea_nil H2 (Ex.refl H2) _ fun H3 e3 => ⟨p, c, t, rfl, pu2.ex e3, by omega, fun sv sg t4 H4 o4 pu4 l4 hG4 so => ?_⟩)
    show tSeq _ _ _ [some (.ref a), some (.ref p), some (vi i), some sv, y4, y5, y6, y7, y8, y9, y10, none] H4
    refine do_set (do_cons (do_ev (ev_var rfl) fun H7 e7 => do_cons (do_ev (ev_var rfl) fun H8 e8 => do_cons (ea_cons (ev_var rfl) (ea_cons (ev_c (v := vi 6)) ea_nil) H8 (Ex.refl _) _ fun H9 e9 => ⟨p, c, t4, 6, rfl, by decide, by decide, pu4.ex ((e7.trans e8).trans e9), by omega, fun la ls H10 nla o10 pu10 hla lne l6' sub => do_cons (do_ev (ev_c (v := vi 4)) fun H11 e11 => do_nil ?_)⟩))))
    have e49 := (e7.trans e8).trans e9
    obtain ⟨lap, lac⟩ := (pu4.ex e49).fresh nla
    have o411 : Off H4 H11 p c := ((Off.of_ex e49).trans o10).trans (.of_ex e11)
    refine ⟨p, c, t4 + 6, 4, sv, sg, la, ls, rfl, by decide, pu10.ex e11, by omega, hG4.off pu4 o411, so, e11 _ _ hla, lne, l6', sub, lap, lac, fun tv tm t12 H12 o12 pu12 l12 tv12 okt szt hgt lint kidt => ?_⟩
    have l12' : t12 + 2 ≤ t4 + 6 + 48 := l12
    have szt' : tm.sz + 1 ≤ 32 := szt
    have o412 : Off H4 H12 p c := o411.trans o12
    have hG12 := hG4.off pu4 o412
    obtain ⟨bv, bok, bfi, bsz⟩ := bt_all (K := K) (sg := sg) tm tv12 okt
    obtain ⟨sa, so1, ps, rfl, hsa, sod, prs⟩ := id hG12
    have sqS : SqT K H12 sa (ps.map V.ref) := .inl (.inr ⟨so1, hsa⟩)
    have lps := paired_len prs
    have sl4 := so.l4
    show tSeq _ _ _ [some (.ref a), some (.ref p), some (vi i), some (.ref sa), some tv, y5, y6, y7, y8, y9, y10, none] H12
    refine do_set (do_op (do_ev (ev_c (v := vi 59)) fun H13 e13 => do_draw (n := 3) (ev_var rfl) ev_c (pu12.ex e13) (by omega) (by decide) (by decide) fun km H14 hkm o14 pu14 => ⟨59, (km : Int), rfl, rfl, ?_⟩))
    have em : ((59 : Int) + (km : Int)) = ((59 + km : Nat) : Int) := by omega
    show tSeq _ _ _ [some (.ref a), some (.ref p), some (vi i), some (.ref sa), some tv, some (.int ((59 : Int) + (km : Int))), y6, y7, y8, y9, y10, none] H14
    rw [em]
    obtain ⟨mn, hmn⟩ : ∃ mn : Nat, mn = 59 + km := ⟨_, rfl⟩
    have hmz : V.int ((59 + km : Nat) : Int) = vi mn := by rw [hmn]
    rw [hmz]
    have m61 : mn ≤ 61 := by omega
    have m59 : 59 ≤ mn := by omega
    have o1214 : Off H12 H14 p c := (Off.of_ex e13).trans o14
    show tSeq _ _ _ [some (.ref a), some (.ref p), some (vi i), some (.ref sa), some tv, some (vi mn), y6, y7, y8, y9, y10, none] H14
    refine q_forT (K := K) (xs := ps.map V.ref) (ev_var rfl) (o1214.et pu12 _ _ sqS) (fun j σ' H' => Off H12 H' p c ∧ ∃ (t' : Nat) (pv : V) (b : Bt) (y6 y7 : Option V), Pur H' p c t' ∧ t' ≤ t12 + 1 + j ∧ BtV K H' sg b pv ∧ b.ok sg ∧ b.fine ∧ b.sz ≤ 61 ∧ σ' = [some (.ref a), some (.ref p), some (vi i), some (.ref sa), some pv, some (vi mn), y6, y7, y8, y9, y10, none])
      (fun H15 e15 => ⟨o1214.trans (.of_ex e15), t12 + 1, tv, tm.bt, y6, y7, pu14.ex e15, by omega, (bv.off pu12 o1214).ex e15, bok, bfi, by omega, rfl⟩) (fun j σ' H' _ ⟨o, _⟩ => o.et pu12 _ _ sqS) (fun j x σ' H15 hx hP => ?_) (fun σ' H15 hP => ?_)
    · obtain ⟨o15, t15, pv, b, z6, z7, pu15, l15, hv, ok, fi, sz, hσ⟩ := hP
      subst hσ
      have jl : j < ps.length := by
        have := (List.getElem?_eq_some_iff.mp hx).1
        rw [List.length_map] at this
        exact this
      rw [List.getElem?_map, List.getElem?_eq_getElem jl] at hx
      cases Option.some.inj hx
      obtain ⟨dd, ed, hdd⟩ := paired_at prs (List.getElem?_eq_getElem jl)
      obtain ⟨fn, pl⟩ := dd
      have memd : (fn, pl) ∈ sg := List.mem_iff_getElem?.mpr ⟨j, ed⟩
      have pl2 : pl ≤ 2 := so.pl _ memd
      refine ⟨_, _, rfl, o15.et pu12 _ _ hdd, rfl, _, _, rfl, _, _, rfl, rfl, ?_⟩
      show tIfS _ _ _ _ [some (.ref a), some (.ref p), some (vi i), some (.ref sa), some pv, some (vi mn), some (.str fn), some (vi pl), y8, y9, y10, none] H15
      refine s_whenE (do_and (et_test (ev_op (ev_var rfl) ev_c rv_I0) H15 (Ex.refl _) _ fun H16 e16 => ?_))
      by_cases p0 : 0 < pl
      · rw [decide_eq_true (show ((pl : Nat) : Int) > 0 by omega)]
        refine iteT (do_tst (do_op (do_draw (n := 6) (ev_var rfl) ev_c (pu15.ex e16) (by omega) (by decide) (by decide) fun kd H17 hkd o17 pu17 => do_ev ev_c fun H18 e18 => rv_eq rfl H18 (Ex.refl _) _ fun H19 e19 => ⟨_, rfl, ?_⟩)))
        have o1519 : Off H15 H19 p c := ((Off.of_ex e16).trans o17).trans (.of_ex (e18.trans e19))
        have pu19 := pu17.ex (e18.trans e19)
        cases hd : decide (vi kd = V.int 0) with
        | false => exact iteF ⟨o15.trans o1519, t15 + 1, pv, b, _, _, pu19, by omega, hv.off pu15 o1519, ok, fi, sz, rfl⟩
        | true =>
          refine iteT ?_
          refine s_asgP (ep_ix2 (K := K) (i := pl - 1) (PA := fun v H' => BtV K H' sg (sizB fn (mn - 1)) v) (PB := fun v H' => BtV K H' sg (comB fn (mn / 2)) v) (ep_call (sg, fn, mn) (ea_cons (ev_var rfl) (ea_cons (ev_var rfl) ea_nil)) (fun _ _ => ⟨rfl, by show 1 ≤ mn; omega, m61⟩)) (ep_call (sg, fn, mn) (ea_cons (ev_var rfl) (ea_cons (ev_var rfl) ea_nil)) (fun _ _ => ⟨rfl, by show 1 ≤ mn; omega, m61⟩)) (fun _ _ => ev_subM (a := pl) (b := 1) (ev_var rfl) ev_c p0) (by omega) (fun _ _ _ e h => h.ex e) (fun _ _ _ e h => h.ex e)) fun v H20 e20 h20 => ?_
          have o1520 : Off H12 H20 p c := (o15.trans o1519).trans (.of_ex e20)
          have pl12 : pl = 1 ∨ pl = 2 := by omega
          rcases pl12 with rfl | rfl
          · obtain ⟨so1', sf1, ss1⟩ := sizB_all (sg := sg) memd (mn - 1)
            exact ⟨o1520, t15 + 1, v, _, _, _, pu19.ex e20, by omega, h20.1 rfl, so1', sf1, by omega, rfl⟩
          · obtain ⟨so1', sf1, ss1⟩ := comB_all (sg := sg) memd (mn / 2)
            exact ⟨o1520, t15 + 1, v, _, _, _, pu19.ex e20, by omega, h20.2 rfl, so1', sf1, by omega, rfl⟩
      · rw [decide_eq_false (show ¬ ((pl : Nat) : Int) > 0 by omega)]
        exact iteF (iteF ⟨o15.trans (.of_ex e16), t15, pv, b, _, _, pu15.ex e16, by omega, hv.ex e16, ok, fi, sz, rfl⟩)
    · obtain ⟨o15, t15, pv, b, z6, z7, pu15, l15, hv, ok, fi, sz, hσ⟩ := hP
      subst hσ
      rw [List.length_map] at l15
      show tSeq _ _ _ [some (.ref a), some (.ref p), some (vi i), some (.ref sa), some pv, some (vi mn), z6, z7, y8, y9, y10, none] H15
      have hG15 := hG12.off pu12 o15
      refine q_forRX (fun n H1 => n < 3 ∧ Off H15 H1 p c ∧ Pur H1 p c (t15 + 1)) (fun Q' q' => do_cons (do_draw (n := 3) (ev_var rfl) ev_c pu15 (by omega) (by decide) (by decide) fun k H' hk o' pu' => do_nil (q' k H' ⟨hk, o', pu'⟩))) (fun n H1 hc => by omega) (fun n j σ' H' => n < 3 ∧ Off H15 H' p c ∧ ∃ (t' : Nat) (pv : V) (b : Bt) (y8 : Option V), Pur H' p c t' ∧ t' ≤ t15 + 1 + 4 * j ∧ BtV K H' sg b pv ∧ b.ok sg ∧ b.fine ∧ b.sz ≤ 61 + 3 * j ∧ σ' = [some (.ref a), some (.ref p), some (vi i), some (.ref sa), some pv, some (vi mn), z6, z7, y8, y9, y10, none])
        (fun n H16 hc => ⟨hc.1, hc.2.1, t15 + 1, pv, b, y8, hc.2.2, by omega, hv.off pu15 hc.2.1, ok, fi, by omega, rfl⟩) (fun n j σ' H16 hj hP => ?_) (fun n σ' H16 hP => ?_)
      · obtain ⟨n3, o16, t16, pv, b, y8, pu16, l16, hv, ok, fi, sz, hσ⟩ := hP
        subst hσ
        show tIfS _ _ _ _ [some (.ref a), some (.ref p), some (vi i), some (.ref sa), some pv, some (vi mn), z6, z7, some (vi j), y9, y10, none] H16
        have hG16 := hG15.off pu15 o16
        refine s_when (b := b.fits) (et_val (ev_callV (v := .bl b.fits) (sg, b) (ea_cons (ev_var rfl) (ea_cons (ev_var rfl) ea_nil)) (fun H4 e4 => ⟨⟨_, _, rfl, hG16.ex e4, hv.ex e4⟩, so, ok⟩) (fun _ _ z => z))) (fun _ H17 e17 => ?_) (fun _ H17 e17 => ⟨n3, o16.trans (.of_ex e17), t16, pv, b, _, pu16.ex e17, by omega, hv.ex e17, ok, fi, by omega, rfl⟩)
        refine do_asg (ea_cons (ev_var rfl) (ea_cons (ev_var rfl) (ea_cons (ev_var rfl) ea_nil)) H17 (Ex.refl _) _ fun H18 e18 => ⟨p, c, t16, .ref sa, pv, sg, b, rfl, pu16.ex (e17.trans e18), by omega, hG16.ex (e17.trans e18), so, hv.ex (e17.trans e18), ok, fi, by omega, fun v' b' H19 o19 pu19 hv19 ok19 fi19 sz19 => ?_⟩)
        exact ⟨n3, (o16.trans (.of_ex (e17.trans e18))).trans o19, t16 + 4, v', b', _, pu19, by omega, hv19, ok19, fi19, by omega, rfl⟩
      · obtain ⟨n3, o16, t16, pv, b, z8, pu16, l16, hv, ok, fi, sz, hσ⟩ := hP
        subst hσ
        have hG16 := hG15.off pu15 o16
        have s67 : b.sz ≤ 67 := by omega
        have gb := gd_bt so b ok fi
        have g1 := gb.mono (show 2 * b.sz + 3 ≤ 140 by omega) (show 110 * b.sz - 1 ≤ 7500 by omega)
        have gw := gd_wrong so ok (by omega : b.sz ≤ 70)
        show tSeq _ _ _ [some (.ref a), some (.ref p), some (vi i), some (.ref sa), some pv, some (vi mn), z6, z7, z8, y9, y10, none] H16
        refine q_asg (ev_reprW (K := K) rfl rfl (ep_ev (ev_var rfl) fun H' e' => (hv.ex e').dp) g1 (by decide) (by decide)) fun H17 e17 => ?_
        obtain ⟨KEPT, hKEPT⟩ : ∃ z : Str, z = b.data.shown := ⟨_, rfl⟩
        rw [← hKEPT]
        have hv17 := hv.ex e17
        have hG17 := hG16.ex e17
        show tSeq _ _ _ [some (.ref a), some (.ref p), some (vi i), some (.ref sa), some pv, some (vi mn), z6, z7, z8, some (.str KEPT), y10, none] H17
        refine q_asgP (ep_call (sg, b) (ea_cons (ev_var rfl) (ea_cons (ev_var rfl) ea_nil)) (fun H' e' => ⟨⟨_, _, rfl, hG17.ex e', hv17.ex e'⟩, so, ok, by show b.sz ≤ 70; omega⟩)) fun dv H18 e18 hdv => ?_
        replace hdv : Dp K H18 dv (wrongL (b.met [])) := hdv
        have hv18 := hv17.ex e18
        have hG18 := hG17.ex e18
        show tSeq _ _ _ [some (.ref a), some (.ref p), some (vi i), some (.ref sa), some pv, some (vi mn), z6, z7, z8, some (.str KEPT), some dv, none] H18
        have told : EvT (tTest (tOp rNe (tCB (rReprW _) (tCons (tCall (sp_term_any K) [] E0 (tCons (tVar 3) (tCons (tVar 4) tNil))) tNil)) (tCB (rReprW _) (tCons (tVar 10) tNil)))) [some (.ref a), some (.ref p), some (vi i), some (.ref sa), some pv, some (vi mn), z6, z7, z8, some (.str KEPT), some dv, none] H18 false := et_test (ev_op (ev_reprW (X := (cxOf CX0 P w K mg base lawN "law" (defScope s_law) fa cdv callerA [] s H E0).nox) (K := K) rfl rfl (ep_call (sg, b) (ea_cons (ev_var rfl) (ea_cons (ev_var rfl) ea_nil)) (fun H' e' => ⟨⟨_, _, rfl, hG18.ex e', hv18.ex e'⟩, so, ok, by show b.sz ≤ 100; omega⟩)) gw (by decide) (by decide)) (ev_reprW (X := (cxOf CX0 P w K mg base lawN "law" (defScope s_law) fa cdv callerA [] s H E0).nox) (K := K) rfl rfl (ep_ev (ev_var rfl) fun H' e' => dp_ex e' hdv) gw (by decide) (by decide)) (rv_ne' rfl rfl))
        refine q_when (b := false) (et_is (et_or (a := false) (b := false) told (fun _ => told)) rfl) (fun hb => by cases hb) (fun _ H19 e19 => ?_)
        have hv19 := hv18.ex e19
        have hG19 := hG18.ex e19
        refine q_when (b := false) (et_is (et_and (a := !decide (dv = .non)) (b := false) (et_isN (ev_var rfl)) (fun z => ?_)) (by rw [Bool.and_false])) (fun hb => by cases hb) (fun _ H20 e20 => ?_)
        · have bad : wrongL (b.met []) ≠ .none := fun y => by
            rw [y] at hdv
            cases hdv
            simp at z
          exact et_is (et_test (ev_opL ev_c (el_lcR (n := 5) (ea_cons ev_c ea_nil) (fun _ => .bl true) (by decide) (fun _ => rfl) (fun k H1 e1 hk => ev_callV (v := .bl true) (k, sg, b) (ea_cons (ev_var rfl) (ea_cons (ev_var rfl) (ea_cons (ev_var rfl) ea_nil))) (fun H' e' => ⟨⟨_, _, rfl, hG19.ex (e1.trans e'), hv19.ex (e1.trans e')⟩, hk, so, ok, by show b.sz ≤ 100; omega, bad⟩) (fun _ _ z => z))) (fun r H1 hr1 e1 => rv_isL (sq_of hr1) rfl rfl))) rfl
        · refine s_when (b := false) (et_is (et_test (ev_op (ev_reprW (K := K) rfl rfl (ep_ev (ev_var rfl) fun H' e' => ((hv19.ex e20).ex e').dp) g1 (by decide) (by decide)) (ev_var rfl) (rv_ne' rfl (by rw [hKEPT])))) rfl) (fun hb => by cases hb) (fun _ H21 e21 => ?_)
          exact ⟨⟨t16, pu16.ex (((e17.trans e18).trans (e19.trans e20)).trans e21), by omega⟩, _, _, _, _, _, _, _, _, _, rfl⟩
  · exact s_ret (v := .bl true) ev_c fun H3 e3 => rfl
end
end K02
end
section
namespace K02
open PySem PySem.Spec PyProof.Rows L2 Evl RZ Dw M20
section
variable {K : PySem.W.Frag} {h : Heap} {mg : Str → Option Value}
/-- a def by what the top has written -/
structure Wr (K : PySem.W.Frag) (x : Str) (st : Stmt) (f : Addr) : Prop where
  ex : ∃ (fd : FuncData), Fun K x x st f fd
  at_ : PySem.W.nsIn K mainGlobals x = some (some (.ref f))
theorem wr_mk {x : Str} {st : Stmt} {f : Addr} {od an : Option Addr} {sl : Array (Option Value)} {oc kV dc pm cd ct : Value} (a1 : PySem.W.nsIn K mainGlobals x = some (some (.ref f)))
    (l1 : K.lookup f = some ⟨oc, od, .func (PySem.W.fnOf x x (defArgs st) (defBody st) (defScope st) .none kV dc pm an cd ct), sl⟩) (c1 : PySem.W.codeIn K cd x = true) (k1 : PySem.W.keepIn K (.ref f) = true) : Wr K x st f := ⟨⟨_, fun_mk l1 c1 k1⟩, a1⟩
theorem Wr.df {x : Str} {st : Stmt} {f : Addr} {ps : List Str} (W : Wr K x st f) (X : K.In h) (G : h.Ns mainGlobals mg) (b : ∀ fd, Fun K x x st f fd → Binds K fd ps []) : Df K mg x st ps := by
  obtain ⟨fd, F⟩ := W.ex
  exact ⟨f, fd, F, PySem.W.mg_of X G W.at_, b fd F⟩

/-- the variables, as the top has written them -/
structure WV (K : PySem.W.Frag) (va : Addr) : Prop where
  at_ : PySem.W.nsIn K mainGlobals "VARIABLES" = some (some (.ref va))
  sq : ∀ H, SqT K H va (vars.map V.str)
theorem wv_mk {va : Addr} {sl : Array (Option Value)} {n : Nat} {t0 t1 t2 t3 t4 t5 : Tok} (a1 : PySem.W.nsIn K mainGlobals "VARIABLES" = some (some (.ref va))) (l1 : K.lookup va = some ⟨.type "tuple", none, .seq #[.str "u" t0, .str "v" t1, .str "w" t2, .str "x" t3, .str "y" t4, .str "z" t5] n, sl⟩) : WV K va :=
  ⟨a1, fun H => .inr ⟨_, _, _, l1, rfl, rfl, by show 6 ≤ sizeLine; decide, .cons ⟨_, rfl⟩ (.cons ⟨_, rfl⟩ (.cons ⟨_, rfl⟩ (.cons ⟨_, rfl⟩ (.cons ⟨_, rfl⟩ (.cons ⟨_, rfl⟩ .nil)))))⟩⟩
end
theorem all_mk {P : Program} {w : World} {K : PySem.W.Frag} {h : Heap} {mg : Str → Option Value} {fa : Addr} (X : K.In h) (G : h.Ns mainGlobals mg) (hfa : mg "law" = some (.ref fa)) (room : Room 75 callerA)
    {fl : Addr} {f0 : Addr} {f1 : Addr} {f2 : Addr} {f3 : Addr} {f4 : Addr} {f5 : Addr} {f6 : Addr} {f7 : Addr} {f8 : Addr} {f9 : Addr} {f10 : Addr} {f11 : Addr} {f12 : Addr} {f13 : Addr} {f14 : Addr} {f15 : Addr} {f16 : Addr} {f17 : Addr} {f18 : Addr} {f19 : Addr} {f20 : Addr} {f21 : Addr} {f22 : Addr} {f23 : Addr} {f24 : Addr} {f25 : Addr} {f26 : Addr} {f27 : Addr} {f28 : Addr} {va : Addr} {P0 B0 T0 G0 a1 a2 a3 a4 a5 a6 : Addr}
    {t_NAME_LETTERS : Tok} {t_MOST_NAME : Tok} {t_MOST_DEEDS : Tok} {t_MOST_PLACES : Tok} {t_MOST_PARTS : Tok}
    (w0 : Wr K "is_whole" s_is_whole f0)
    (w1 : Wr K "is_below" s_is_below f1)
    (w2 : Wr K "is_name" s_is_name f2)
    (w3 : Wr K "is_deed" s_is_deed f3)
    (w4 : Wr K "signature_wrong" s_signature_wrong f4)
    (w5 : Wr K "need_signature" s_need_signature f5)
    (w6 : Wr K "_law_purse" s_purse f6)
    (w7 : Wr K "_law_draw" s_draw f7)
    (w8 : Wr K "_law_pick" s_pick f8)
    (w9 : Wr K "_law_deeds" s_dds f9)
    (w10 : Wr K "_law_letters" s_ltr f10)
    (w11 : Wr K "_law_grown" s_grn f11)
    (w12 : Wr K "has_term_form" s_has_term_form f12)
    (w13 : Wr K "wrong_in_term" s_wrong_in_term f13)
    (w14 : Wr K "term_wrong" s_term_wrong f14)
    (w15 : Wr K "need_term" s_need_term f15)
    (w16 : Wr K "variables_in" s_variables_in f16)
    (w17 : Wr K "paths_in" s_paths_in f17)
    (w18 : Wr K "lettered" s_lettered f18)
    (w19 : Wr K "term_text" s_term_text f19)
    (w20 : Wr K "put_in" s_put_in f20)
    (w21 : Wr K "_law_fits" s__law_fits f21)
    (w22 : Wr K "_law_met" s__law_met f22)
    (w23 : Wr K "_law_due" s__law_due f23)
    (w24 : Wr K "_law_sized" s__law_sized f24)
    (w25 : Wr K "_law_combed" s__law_combed f25)
    (w26 : Wr K "_law_laid" s__law_laid f26)
    (w27 : Wr K "_law_bent" s__law_bent f27)
    (w28 : Wr K "_law_refused" s__law_refused f28)
    (wl : Wr K "law" s_law fl)
    (wv : WV K va)
    (xaP : PySem.W.nsIn K mainGlobals "NoPlace" = some (some (.ref P0)))
    (xkP : PySem.W.keepIn K (.ref P0) = true)
    (xqP : PySem.W.excIn K P0 [.type "ValueError", .type "Exception", .type "BaseException", .type "object"] "ValueError.__new__" = true)
    (xtP : PySem.W.typeIn K (.ref P0) = some (.type "type"))
    (x1P : PySem.W.findIn K (.ref P0) "__getattribute__" = some (some (.builtin "BaseException.__getattribute__")))
    (x2P : PySem.W.findIn K (.ref P0) "__getattr__" = some none)
    (x3P : PySem.W.subIn K (.ref P0) (.type "BaseException") = some true)
    (x4P : PySem.W.hasDictIn K P0 = true)
    (x5P : PySem.W.findIn K (.ref P0) "__class__" = some (some (.builtin "object.__class__")))
    (x8P : PySem.W.mroIn K P0 (.type "object") = some true)
    (xaB : PySem.W.nsIn K mainGlobals "TooBig" = some (some (.ref B0)))
    (xkB : PySem.W.keepIn K (.ref B0) = true)
    (xqB : PySem.W.excIn K B0 [.type "ValueError", .type "Exception", .type "BaseException", .type "object"] "ValueError.__new__" = true)
    (xtB : PySem.W.typeIn K (.ref B0) = some (.type "type"))
    (x1B : PySem.W.findIn K (.ref B0) "__getattribute__" = some (some (.builtin "BaseException.__getattribute__")))
    (x2B : PySem.W.findIn K (.ref B0) "__getattr__" = some none)
    (x3B : PySem.W.subIn K (.ref B0) (.type "BaseException") = some true)
    (x4B : PySem.W.hasDictIn K B0 = true)
    (x5B : PySem.W.findIn K (.ref B0) "__class__" = some (some (.builtin "object.__class__")))
    (x8B : PySem.W.mroIn K B0 (.type "object") = some true)
    (xaT : PySem.W.nsIn K mainGlobals "NoTerm" = some (some (.ref T0)))
    (xkT : PySem.W.keepIn K (.ref T0) = true)
    (xqT : PySem.W.excIn K T0 [.type "ValueError", .type "Exception", .type "BaseException", .type "object"] "ValueError.__new__" = true)
    (xtT : PySem.W.typeIn K (.ref T0) = some (.type "type"))
    (x1T : PySem.W.findIn K (.ref T0) "__getattribute__" = some (some (.builtin "BaseException.__getattribute__")))
    (x2T : PySem.W.findIn K (.ref T0) "__getattr__" = some none)
    (x3T : PySem.W.subIn K (.ref T0) (.type "BaseException") = some true)
    (x4T : PySem.W.hasDictIn K T0 = true)
    (x5T : PySem.W.findIn K (.ref T0) "__class__" = some (some (.builtin "object.__class__")))
    (x8T : PySem.W.mroIn K T0 (.type "object") = some true)
    (x6 : PySem.W.specialIn K (.builtin "object.__class__") "__get__" = some (some (.builtin "getset_descriptor.__get__")))
    (x7 : PySem.W.takesIn K (.builtin "object.__class__") = some true)
    (xg : PySem.W.nsIn K mainGlobals "DeedError" = some (some (.ref G0)))
    (y1 : PySem.W.subIn K (.ref G0) (.type "BaseException") = some true)
    (y2 : PySem.W.hasDictIn K G0 = true)
    (y3 : PySem.W.typeIn K (.ref G0) = some (.type "type"))
    (y4P : PySem.W.subIn K (.ref P0) (.ref G0) = some true)
    (y4B : PySem.W.subIn K (.ref B0) (.ref G0) = some true)
    (y4T : PySem.W.subIn K (.ref T0) (.ref G0) = some true)
    (m1 : PySem.W.nsIn K mainGlobals "NoEquation" = some (some (.ref a1)))
    (m2 : PySem.W.nsIn K mainGlobals "NoKind" = some (some (.ref a2)))
    (m3 : PySem.W.nsIn K mainGlobals "NoModel" = some (some (.ref a3)))
    (m4 : PySem.W.nsIn K mainGlobals "NoPutting" = some (some (.ref a4)))
    (m5 : PySem.W.nsIn K mainGlobals "NoSignature" = some (some (.ref a5)))
    (m6 : PySem.W.nsIn K mainGlobals "NoText" = some (some (.ref a6)))
    (oTT : PySem.W.kitOne K (.ref T0) (.ref T0) = some true)
    (oTs : PySem.W.kitAny K (.ref T0) [.ref a1, .ref a2, .ref a3, .ref P0, .ref a4, .ref a5, .ref a6, .ref B0] = some false)
    (oTv : PySem.W.kitOne K (.ref T0) (.type "ValueError") = some true)
    (z_ValueError : PySem.W.nsIn K mainGlobals "ValueError" = some none)
    (z_all : PySem.W.nsIn K mainGlobals "all" = some none)
    (z_bool : PySem.W.nsIn K mainGlobals "bool" = some none)
    (z_dict : PySem.W.nsIn K mainGlobals "dict" = some none)
    (z_enumerate : PySem.W.nsIn K mainGlobals "enumerate" = some none)
    (z_int : PySem.W.nsIn K mainGlobals "int" = some none)
    (z_isinstance : PySem.W.nsIn K mainGlobals "isinstance" = some none)
    (z_len : PySem.W.nsIn K mainGlobals "len" = some none)
    (z_range : PySem.W.nsIn K mainGlobals "range" = some none)
    (z_repr : PySem.W.nsIn K mainGlobals "repr" = some none)
    (z_reversed : PySem.W.nsIn K mainGlobals "reversed" = some none)
    (z_set : PySem.W.nsIn K mainGlobals "set" = some none)
    (z_sorted : PySem.W.nsIn K mainGlobals "sorted" = some none)
    (z_str : PySem.W.nsIn K mainGlobals "str" = some none)
    (z_super : PySem.W.nsIn K mainGlobals "super" = some none)
    (z_tuple : PySem.W.nsIn K mainGlobals "tuple" = some none)
    (z_zip : PySem.W.nsIn K mainGlobals "zip" = some none)
    (k_NAME_LETTERS : PySem.W.nsIn K mainGlobals "NAME_LETTERS" = some (some (.str "abcdefghijklmnopqrst" t_NAME_LETTERS)))
    (k_MOST_NAME : PySem.W.nsIn K mainGlobals "MOST_NAME" = some (some (.int 4 t_MOST_NAME)))
    (k_MOST_DEEDS : PySem.W.nsIn K mainGlobals "MOST_DEEDS" = some (some (.int 4 t_MOST_DEEDS)))
    (k_MOST_PLACES : PySem.W.nsIn K mainGlobals "MOST_PLACES" = some (some (.int 2 t_MOST_PLACES)))
    (k_MOST_PARTS : PySem.W.nsIn K mainGlobals "MOST_PARTS" = some (some (.int 60 t_MOST_PARTS))) :
    ∃ (fd : FuncData) (st : Stmt) (N : List Str), Fun K "law" "law" st fa fd ∧ FnScope N ["_law_script"] (defScope st) ∧ (∀ (s : Shared) (u : Value), BindsTo s fd ⟨[u], []⟩ [("_law_script", u)]) ∧
      ∀ (base : Heap) (s : Shared) (H : Hp) (cdv : Value) (a : Addr) (ns : List Int), K.In base → base.Ns mainGlobals mg → ns.length ≤ 63 → SqL K H a (ns.map V.int) →
        ∃ t, PSs (cxOf CX0 P w K mg base N "law" (defScope st) fa cdv callerA [] s H E0).nox (defBody st) t ∧ t { nx := fun _ _ => False, rt := fun v _ => v = .bl true } (L2.start N [.ref a]) H := by
  have e := hfa.symm.trans (PySem.W.mg_of X G wl.at_)
  cases e
  have T : Txt mg := {
    z_ValueError := PySem.W.mg_none_of X G z_ValueError
    z_all := PySem.W.mg_none_of X G z_all
    z_bool := PySem.W.mg_none_of X G z_bool
    z_dict := PySem.W.mg_none_of X G z_dict
    z_enumerate := PySem.W.mg_none_of X G z_enumerate
    z_int := PySem.W.mg_none_of X G z_int
    z_isinstance := PySem.W.mg_none_of X G z_isinstance
    z_len := PySem.W.mg_none_of X G z_len
    z_range := PySem.W.mg_none_of X G z_range
    z_repr := PySem.W.mg_none_of X G z_repr
    z_reversed := PySem.W.mg_none_of X G z_reversed
    z_set := PySem.W.mg_none_of X G z_set
    z_sorted := PySem.W.mg_none_of X G z_sorted
    z_str := PySem.W.mg_none_of X G z_str
    z_super := PySem.W.mg_none_of X G z_super
    z_tuple := PySem.W.mg_none_of X G z_tuple
    z_zip := PySem.W.mg_none_of X G z_zip
    c_NAME_LETTERS := ⟨_, PySem.W.mg_of X G k_NAME_LETTERS⟩
    c_MOST_NAME := ⟨_, PySem.W.mg_of X G k_MOST_NAME⟩
    c_MOST_DEEDS := ⟨_, PySem.W.mg_of X G k_MOST_DEEDS⟩
    c_MOST_PLACES := ⟨_, PySem.W.mg_of X G k_MOST_PLACES⟩
    c_MOST_PARTS := ⟨_, PySem.W.mg_of X G k_MOST_PARTS⟩ }
  have V0 : Vars K mg va := ⟨PySem.W.mg_of X G wv.at_, wv.sq⟩
  have er : Ers K mg P0 B0 T0 G0 := ⟨⟨PySem.W.mg_of X G xaP, xkP, xqP, xtP, ⟨x1P, x2P, x3P, x4P, x5P, x6, x7, x8P⟩⟩, ⟨PySem.W.mg_of X G xaB, xkB, xqB, xtB, ⟨x1B, x2B, x3B, x4B, x5B, x6, x7, x8B⟩⟩, ⟨PySem.W.mg_of X G xaT, xkT, xqT, xtT, ⟨x1T, x2T, x3T, x4T, x5T, x6, x7, x8T⟩⟩, PySem.W.mg_of X G xg, PySem.W.exm_ref y1 y2 y3 y4P, PySem.W.exm_ref y1 y2 y3 y4B, PySem.W.exm_ref y1 y2 y3 y4T⟩
  have sx : Eight K mg P0 B0 T0 a1 a2 a3 a4 a5 a6 := ⟨PySem.W.mg_of X G m1, PySem.W.mg_of X G m2, PySem.W.mg_of X G m3, PySem.W.mg_of X G m4, PySem.W.mg_of X G m5, PySem.W.mg_of X G m6, oTT, oTs, oTv⟩
  have D0 : Df K mg "is_whole" s_is_whole ["thing"] := w0.df X G fun fd F => by
    obtain ⟨oc, od, kV, doc, pm, an, cdv, ct, osl, e, _⟩ := F.ex
    subst e
    exact F.binds fun _ _ _ _ _ _ us hl => match us, hl with | [_], _ => rfl
  have D1 : Df K mg "is_below" s_is_below ["thing", "size"] := w1.df X G fun fd F => by
    obtain ⟨oc, od, kV, doc, pm, an, cdv, ct, osl, e, _⟩ := F.ex
    subst e
    exact F.binds fun _ _ _ _ _ _ us hl => match us, hl with | [_, _], _ => rfl
  have D2 : Df K mg "is_name" s_is_name ["thing"] := w2.df X G fun fd F => by
    obtain ⟨oc, od, kV, doc, pm, an, cdv, ct, osl, e, _⟩ := F.ex
    subst e
    exact F.binds fun _ _ _ _ _ _ us hl => match us, hl with | [_], _ => rfl
  have D3 : Df K mg "is_deed" s_is_deed ["thing"] := w3.df X G fun fd F => by
    obtain ⟨oc, od, kV, doc, pm, an, cdv, ct, osl, e, _⟩ := F.ex
    subst e
    exact F.binds fun _ _ _ _ _ _ us hl => match us, hl with | [_], _ => rfl
  have D4 : Df K mg "signature_wrong" s_signature_wrong ["thing"] := w4.df X G fun fd F => by
    obtain ⟨oc, od, kV, doc, pm, an, cdv, ct, osl, e, _⟩ := F.ex
    subst e
    exact F.binds fun _ _ _ _ _ _ us hl => match us, hl with | [_], _ => rfl
  have D5 : Df K mg "need_signature" s_need_signature ["signature"] := w5.df X G fun fd F => by
    obtain ⟨oc, od, kV, doc, pm, an, cdv, ct, osl, e, _⟩ := F.ex
    subst e
    exact F.binds fun _ _ _ _ _ _ us hl => match us, hl with | [_], _ => rfl
  have D6 : Df K mg "_law_purse" s_purse ["_law_script"] := w6.df X G fun fd F => by
    obtain ⟨oc, od, kV, doc, pm, an, cdv, ct, osl, e, _⟩ := F.ex
    subst e
    exact F.binds fun _ _ _ _ _ _ us hl => match us, hl with | [_], _ => rfl
  have D7 : Df K mg "_law_draw" s_draw ["_law_purse_here", "_law_out_of"] := w7.df X G fun fd F => by
    obtain ⟨oc, od, kV, doc, pm, an, cdv, ct, osl, e, _⟩ := F.ex
    subst e
    exact F.binds fun _ _ _ _ _ _ us hl => match us, hl with | [_, _], _ => rfl
  have D8 : Df K mg "_law_pick" s_pick ["_law_purse_here", "_law_some"] := w8.df X G fun fd F => by
    obtain ⟨oc, od, kV, doc, pm, an, cdv, ct, osl, e, _⟩ := F.ex
    subst e
    exact F.binds fun _ _ _ _ _ _ us hl => match us, hl with | [_, _], _ => rfl
  have D9 : Df K mg "_law_deeds" s_dds ["_law_purse_here"] := w9.df X G fun fd F => by
    obtain ⟨oc, od, kV, doc, pm, an, cdv, ct, osl, e, _⟩ := F.ex
    subst e
    exact F.binds fun _ _ _ _ _ _ us hl => match us, hl with | [_], _ => rfl
  have D10 : Df K mg "_law_letters" s_ltr ["_law_purse_here", "_law_most"] := w10.df X G fun fd F => by
    obtain ⟨oc, od, kV, doc, pm, an, cdv, ct, osl, e, _⟩ := F.ex
    subst e
    exact F.binds fun _ _ _ _ _ _ us hl => match us, hl with | [_, _], _ => rfl
  have D11 : Df K mg "_law_grown" s_grn ["_law_purse_here", "_law_deeds_here", "_law_chosen", "_law_deep"] := w11.df X G fun fd F => by
    obtain ⟨oc, od, kV, doc, pm, an, cdv, ct, osl, e, _⟩ := F.ex
    subst e
    exact F.binds fun _ _ _ _ _ _ us hl => match us, hl with | [_, _, _, _], _ => rfl
  have D12 : Df K mg "has_term_form" s_has_term_form ["places", "thing"] := w12.df X G fun fd F => by
    obtain ⟨oc, od, kV, doc, pm, an, cdv, ct, osl, e, _⟩ := F.ex
    subst e
    exact F.binds fun _ _ _ _ _ _ us hl => match us, hl with | [_, _], _ => rfl
  have D13 : Df K mg "wrong_in_term" s_wrong_in_term ["places", "thing"] := w13.df X G fun fd F => by
    obtain ⟨oc, od, kV, doc, pm, an, cdv, ct, osl, e, _⟩ := F.ex
    subst e
    exact F.binds fun _ _ _ _ _ _ us hl => match us, hl with | [_, _], _ => rfl
  have D14 : Df K mg "term_wrong" s_term_wrong ["signature", "thing"] := w14.df X G fun fd F => by
    obtain ⟨oc, od, kV, doc, pm, an, cdv, ct, osl, e, _⟩ := F.ex
    subst e
    exact F.binds fun _ _ _ _ _ _ us hl => match us, hl with | [_, _], _ => rfl
  have D15 : Df K mg "need_term" s_need_term ["signature", "term"] := w15.df X G fun fd F => by
    obtain ⟨oc, od, kV, doc, pm, an, cdv, ct, osl, e, _⟩ := F.ex
    subst e
    exact F.binds fun _ _ _ _ _ _ us hl => match us, hl with | [_, _], _ => rfl
  have D16 : Df K mg "variables_in" s_variables_in ["signature", "term"] := w16.df X G fun fd F => by
    obtain ⟨oc, od, kV, doc, pm, an, cdv, ct, osl, e, _⟩ := F.ex
    subst e
    exact F.binds fun _ _ _ _ _ _ us hl => match us, hl with | [_, _], _ => rfl
  have D17 : Df K mg "paths_in" s_paths_in ["signature", "term"] := w17.df X G fun fd F => by
    obtain ⟨oc, od, kV, doc, pm, an, cdv, ct, osl, e, _⟩ := F.ex
    subst e
    exact F.binds fun _ _ _ _ _ _ us hl => match us, hl with | [_, _], _ => rfl
  have D18 : Df K mg "lettered" s_lettered ["signature", "term"] := w18.df X G fun fd F => by
    obtain ⟨oc, od, kV, doc, pm, an, cdv, ct, osl, e, _⟩ := F.ex
    subst e
    exact F.binds fun _ _ _ _ _ _ us hl => match us, hl with | [_, _], _ => rfl
  have D19 : Df K mg "term_text" s_term_text ["signature", "term"] := w19.df X G fun fd F => by
    obtain ⟨oc, od, kV, doc, pm, an, cdv, ct, osl, e, _⟩ := F.ex
    subst e
    exact F.binds fun _ _ _ _ _ _ us hl => match us, hl with | [_, _], _ => rfl
  have D20 : Df K mg "put_in" s_put_in ["signature", "term", "putting"] := w20.df X G fun fd F => by
    obtain ⟨oc, od, kV, doc, pm, an, cdv, ct, osl, e, _⟩ := F.ex
    subst e
    exact F.binds fun _ _ _ _ _ _ us hl => match us, hl with | [_, _, _], _ => rfl
  have D21 : Df K mg "_law_fits" s__law_fits ["_law_deeds_here", "_law_piece"] := w21.df X G fun fd F => by
    obtain ⟨oc, od, kV, doc, pm, an, cdv, ct, osl, e, _⟩ := F.ex
    subst e
    exact F.binds fun _ _ _ _ _ _ us hl => match us, hl with | [_, _], _ => rfl
  have D22 : Df K mg "_law_met" s__law_met ["_law_deeds_here", "_law_piece", "_law_path"] := w22.df X G fun fd F => by
    obtain ⟨oc, od, kV, doc, pm, an, cdv, ct, osl, e, _⟩ := F.ex
    subst e
    exact F.binds fun _ _ _ _ _ _ us hl => match us, hl with | [_, _, _], _ => rfl
  have D23 : Df K mg "_law_due" s__law_due ["_law_deeds_here", "_law_piece"] := w23.df X G fun fd F => by
    obtain ⟨oc, od, kV, doc, pm, an, cdv, ct, osl, e, _⟩ := F.ex
    subst e
    exact F.binds fun _ _ _ _ _ _ us hl => match us, hl with | [_, _], _ => rfl
  have D24 : Df K mg "_law_sized" s__law_sized ["_law_many", "_law_name"] := w24.df X G fun fd F => by
    obtain ⟨oc, od, kV, doc, pm, an, cdv, ct, osl, e, _⟩ := F.ex
    subst e
    exact F.binds fun _ _ _ _ _ _ us hl => match us, hl with | [_, _], _ => rfl
  have D25 : Df K mg "_law_combed" s__law_combed ["_law_many", "_law_name"] := w25.df X G fun fd F => by
    obtain ⟨oc, od, kV, doc, pm, an, cdv, ct, osl, e, _⟩ := F.ex
    subst e
    exact F.binds fun _ _ _ _ _ _ us hl => match us, hl with | [_, _], _ => rfl
  have D26 : Df K mg "_law_laid" s__law_laid ["_law_piece", "_law_path", "_law_bit"] := w26.df X G fun fd F => by
    obtain ⟨oc, od, kV, doc, pm, an, cdv, ct, osl, e, _⟩ := F.ex
    subst e
    exact F.binds fun _ _ _ _ _ _ us hl => match us, hl with | [_, _, _], _ => rfl
  have D27 : Df K mg "_law_bent" s__law_bent ["_law_purse_here", "_law_deeds_here", "_law_piece"] := w27.df X G fun fd F => by
    obtain ⟨oc, od, kV, doc, pm, an, cdv, ct, osl, e, _⟩ := F.ex
    subst e
    exact F.binds fun _ _ _ _ _ _ us hl => match us, hl with | [_, _, _], _ => rfl
  have D28 : Df K mg "_law_refused" s__law_refused ["_law_which", "_law_deeds_here", "_law_piece"] := w28.df X G fun fd F => by
    obtain ⟨oc, od, kV, doc, pm, an, cdv, ct, osl, e, _⟩ := F.ex
    subst e
    exact F.binds fun _ _ _ _ _ _ us hl => match us, hl with | [_, _, _], _ => rfl
  obtain ⟨fd, F⟩ := wl.ex
  refine ⟨fd, s_law, ["_law_script", "_law_purse_here", "_law_turn", "_law_deeds_here", "_law_piece", "_law_many", "_law_name", "_law_places", "_law_again", "_law_kept", "_law_due_here", "_law_which"], F, sc_law, fun s u => ?_, fun base s H cdv a ns inB nsB len seq => ?_⟩
  · obtain ⟨oc, od, kV, doc, pm, an, cdv, ct, osl, e, _⟩ := F.ex
    subst e
    exact .of_eq rfl
  · have c_is_whole := c_is_whole (P := P) (w := w) (base := base) T D0 
    have c_is_below := c_is_below (P := P) (w := w) (base := base) T D1 c_is_whole
    have c_is_name := c_is_name (P := P) (w := w) (base := base) T D2 
    have c_is_deed := c_is_deed (P := P) (w := w) (base := base) T D3 c_is_name c_is_below
    have c_signature_wrong := c_signature_wrong (P := P) (w := w) (base := base) T D4 c_is_deed
    have c_need_signature := c_need_signature (P := P) (w := w) (base := base) T D5 c_signature_wrong
    have c_purse := c_purse (P := P) (w := w) (base := base) T D6 
    have c_draw := c_draw (P := P) (w := w) (base := base) T D7 
    have c_pick := c_pick (P := P) (w := w) (base := base) T D8 c_draw
    have c_deeds := c_deeds (P := P) (w := w) (base := base) T D9 c_draw c_pick
    have c_letters := c_letters (P := P) (w := w) (base := base) T D10 c_draw
    have c_grown := c_grown (P := P) (w := w) (base := base) T D11 c_draw c_pick 5
    have c_form_any := c_form_any (P := P) (w := w) (base := base) T V0 D12 
    have c_wrong_any := c_wrong_any (P := P) (w := w) (base := base) T D13 c_form_any
    have c_term_any := c_term_any (P := P) (w := w) (base := base) T D14 c_need_signature c_wrong_any
    have c_need_termA := c_need_termA (P := P) (w := w) (base := base) T D15 er c_term_any
    have c_variables_inX := c_variables_inX (P := P) (w := w) (base := base) T D16 c_need_termA
    have c_paths_inX := c_paths_inX (P := P) (w := w) (base := base) T D17 c_need_termA
    have c_letteredX := c_letteredX (P := P) (w := w) (base := base) T D18 c_need_termA
    have c_term_textX := c_term_textX (P := P) (w := w) (base := base) T D19 c_need_termA
    have c_put_inA := c_put_inA (P := P) (w := w) (base := base) T D20 c_need_termA
    have c_fits := c_fits (P := P) (w := w) (base := base) T D21 
    have c_met := c_met (P := P) (w := w) (base := base) T D22 c_fits 70
    have c_due := c_due (P := P) (w := w) (base := base) T D23 c_fits c_met
    have c_sized := c_sized (P := P) (w := w) (base := base) T D24 
    have c_combed := c_combed (P := P) (w := w) (base := base) T D25 
    have c_laidB := c_laidB (P := P) (w := w) (base := base) T D26  70
    have c_bent := c_bent (P := P) (w := w) (base := base) T D27 c_met c_pick c_laidB
    have c_refusedE := c_refusedE (P := P) (w := w) (base := base) T D28 er sx c_variables_inX c_paths_inX c_letteredX c_term_textX c_put_inA
    exact law_ok T c_purse c_deeds c_letters c_grown c_draw c_sized c_combed c_fits c_bent c_due c_term_any c_refusedE room s H fa cdv a ns len seq
end K02
end
open PySem PySem.W PyProof.Rows
set_option maxHeartbeats 0 in
theorem PySem.Challenge.cw_deedworlds_k02_terms_looked_at_holds : PySem.Challenge.rw_deedworlds_k02_terms_looked_at.Holds := by
  w_on; o_law; k_head; (case hw => w_witness2)
  k_fill
  refine Dw.walkG (l := PySem.Challenge.rw_deedworlds_k02_terms_looked_at) (n := 63) (k := 74) (x := "_law_script") rfl (by decide) rfl ⟨rfl, by decide, by decide⟩ (fun w h Y => PySem.W.kIn_of Y) ?F
  case F =>
    intro w mg fa h KX G hmg
    refine' K02.all_mk KX G hmg ⟨rfl, by decide, by decide⟩ (K02.wr_mk ?a0 ?l0 ?c0 ?k0) (K02.wr_mk ?a1 ?l1 ?c1 ?k1) (K02.wr_mk ?a2 ?l2 ?c2 ?k2) (K02.wr_mk ?a3 ?l3 ?c3 ?k3) (K02.wr_mk ?a4 ?l4 ?c4 ?k4) (K02.wr_mk ?a5 ?l5 ?c5 ?k5) (K02.wr_mk ?a6 ?l6 ?c6 ?k6) (K02.wr_mk ?a7 ?l7 ?c7 ?k7) (K02.wr_mk ?a8 ?l8 ?c8 ?k8) (K02.wr_mk ?a9 ?l9 ?c9 ?k9) (K02.wr_mk ?a10 ?l10 ?c10 ?k10) (K02.wr_mk ?a11 ?l11 ?c11 ?k11) (K02.wr_mk ?a12 ?l12 ?c12 ?k12) (K02.wr_mk ?a13 ?l13 ?c13 ?k13) (K02.wr_mk ?a14 ?l14 ?c14 ?k14) (K02.wr_mk ?a15 ?l15 ?c15 ?k15) (K02.wr_mk ?a16 ?l16 ?c16 ?k16) (K02.wr_mk ?a17 ?l17 ?c17 ?k17) (K02.wr_mk ?a18 ?l18 ?c18 ?k18) (K02.wr_mk ?a19 ?l19 ?c19 ?k19) (K02.wr_mk ?a20 ?l20 ?c20 ?k20) (K02.wr_mk ?a21 ?l21 ?c21 ?k21) (K02.wr_mk ?a22 ?l22 ?c22 ?k22) (K02.wr_mk ?a23 ?l23 ?c23 ?k23) (K02.wr_mk ?a24 ?l24 ?c24 ?k24) (K02.wr_mk ?a25 ?l25 ?c25 ?k25) (K02.wr_mk ?a26 ?l26 ?c26 ?k26) (K02.wr_mk ?a27 ?l27 ?c27 ?k27) (K02.wr_mk ?a28 ?l28 ?c28 ?k28) (K02.wr_mk ?al ?ll ?cl ?kl) (K02.wv_mk ?av ?lv) ?xaP ?xkP ?xqP ?xtP ?x1P ?x2P ?x3P ?x4P ?x5P ?x8P ?xaB ?xkB ?xqB ?xtB ?x1B ?x2B ?x3B ?x4B ?x5B ?x8B ?xaT ?xkT ?xqT ?xtT ?x1T ?x2T ?x3T ?x4T ?x5T ?x8T ?x6 ?x7 ?xg ?y1 ?y2 ?y3 ?y4P ?y4B ?y4T ?m1 ?m2 ?m3 ?m4 ?m5 ?m6 ?oTT ?oTs ?oTv ?z_ValueError ?z_all ?z_bool ?z_dict ?z_enumerate ?z_int ?z_isinstance ?z_len ?z_range ?z_repr ?z_reversed ?z_set ?z_sorted ?z_str ?z_super ?z_tuple ?z_zip ?k_NAME_LETTERS ?k_MOST_NAME ?k_MOST_DEEDS ?k_MOST_PLACES ?k_MOST_PARTS
    (case a0 => k_is); (case l0 => k_is); (case c0 => k_is); (case k0 => k_is)
    (case a1 => k_is); (case l1 => k_is); (case c1 => k_is); (case k1 => k_is)
    (case a2 => k_is); (case l2 => k_is); (case c2 => k_is); (case k2 => k_is)
    (case a3 => k_is); (case l3 => k_is); (case c3 => k_is); (case k3 => k_is)
    (case a4 => k_is); (case l4 => k_is); (case c4 => k_is); (case k4 => k_is)
    (case a5 => k_is); (case l5 => k_is); (case c5 => k_is); (case k5 => k_is)
    (case a6 => k_is); (case l6 => k_is); (case c6 => k_is); (case k6 => k_is)
    (case a7 => k_is); (case l7 => k_is); (case c7 => k_is); (case k7 => k_is)
    (case a8 => k_is); (case l8 => k_is); (case c8 => k_is); (case k8 => k_is)
    (case a9 => k_is); (case l9 => k_is); (case c9 => k_is); (case k9 => k_is)
    (case a10 => k_is); (case l10 => k_is); (case c10 => k_is); (case k10 => k_is)
    (case a11 => k_is); (case l11 => k_is); (case c11 => k_is); (case k11 => k_is)
    (case a12 => k_is); (case l12 => k_is); (case c12 => k_is); (case k12 => k_is)
    (case a13 => k_is); (case l13 => k_is); (case c13 => k_is); (case k13 => k_is)
    (case a14 => k_is); (case l14 => k_is); (case c14 => k_is); (case k14 => k_is)
    (case a15 => k_is); (case l15 => k_is); (case c15 => k_is); (case k15 => k_is)
    (case a16 => k_is); (case l16 => k_is); (case c16 => k_is); (case k16 => k_is)
    (case a17 => k_is); (case l17 => k_is); (case c17 => k_is); (case k17 => k_is)
    (case a18 => k_is); (case l18 => k_is); (case c18 => k_is); (case k18 => k_is)
    (case a19 => k_is); (case l19 => k_is); (case c19 => k_is); (case k19 => k_is)
    (case a20 => k_is); (case l20 => k_is); (case c20 => k_is); (case k20 => k_is)
    (case a21 => k_is); (case l21 => k_is); (case c21 => k_is); (case k21 => k_is)
    (case a22 => k_is); (case l22 => k_is); (case c22 => k_is); (case k22 => k_is)
    (case a23 => k_is); (case l23 => k_is); (case c23 => k_is); (case k23 => k_is)
    (case a24 => k_is); (case l24 => k_is); (case c24 => k_is); (case k24 => k_is)
    (case a25 => k_is); (case l25 => k_is); (case c25 => k_is); (case k25 => k_is)
    (case a26 => k_is); (case l26 => k_is); (case c26 => k_is); (case k26 => k_is)
    (case a27 => k_is); (case l27 => k_is); (case c27 => k_is); (case k27 => k_is)
    (case a28 => k_is); (case l28 => k_is); (case c28 => k_is); (case k28 => k_is)
    (case al => k_is); (case ll => k_is); (case cl => k_is); (case kl => k_is)
    (case av => k_is); (case lv => k_is)
    (case xaP => k_is); (case xkP => k_is); (case xqP => k_exc); (case xtP => k_is); (case x1P => k_is); (case x2P => k_is); (case x3P => k_is); (case x4P => k_is); (case x5P => k_is); (case x8P => k_is); (case xaB => k_is); (case xkB => k_is); (case xqB => k_exc); (case xtB => k_is); (case x1B => k_is); (case x2B => k_is); (case x3B => k_is); (case x4B => k_is); (case x5B => k_is); (case x8B => k_is); (case xaT => k_is); (case xkT => k_is); (case xqT => k_exc); (case xtT => k_is); (case x1T => k_is); (case x2T => k_is); (case x3T => k_is); (case x4T => k_is); (case x5T => k_is); (case x8T => k_is); (case x6 => k_is); (case x7 => k_is); (case xg => k_is); (case y1 => k_is); (case y2 => k_is); (case y3 => k_is); (case y4P => first | rfl | k_is); (case y4B => first | rfl | k_is); (case y4T => first | rfl | k_is); (case m1 => k_is); (case m2 => k_is); (case m3 => k_is); (case m4 => k_is); (case m5 => k_is); (case m6 => k_is); (case oTT => kit_is); (case oTs => kit_is); (case oTv => kit_is)
    (case z_ValueError => k_is); (case z_all => k_is); (case z_bool => k_is); (case z_dict => k_is); (case z_enumerate => k_is); (case z_int => k_is); (case z_isinstance => k_is); (case z_len => k_is); (case z_range => k_is); (case z_repr => k_is); (case z_reversed => k_is); (case z_set => k_is); (case z_sorted => k_is); (case z_str => k_is); (case z_super => k_is); (case z_tuple => k_is); (case z_zip => k_is)
    (case k_NAME_LETTERS => k_is); (case k_MOST_NAME => k_is); (case k_MOST_DEEDS => k_is); (case k_MOST_PLACES => k_is); (case k_MOST_PARTS => k_is)
