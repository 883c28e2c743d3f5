package keeper_test

import (
	"fmt"
	"math"
	"slices"
	"testing"

	"speakeasy/keeper"
)

func small(names ...string) keeper.Config {
	return keeper.Config{Names: names, First: 2, Most: 7, Beat: 3}
}

// P29.1: the numbers of the document.
func TestConstants(t *testing.T) {
	got := []int{keeper.Idle, keeper.Trying, keeper.In, keeper.Connect, keeper.Ask, keeper.Ping, keeper.Hang, keeper.Entered, keeper.Lost, keeper.Granted, keeper.Denied}
	if !slices.Equal(got, []int{0, 1, 2, 1, 2, 3, 4, 1, 2, 3, 4}) {
		t.Errorf("%v", got)
	}
}

// P29.1, P29.2: the example of the document.
func TestExample(t *testing.T) {
	b := create(t, small("web"))
	b.is(keeper.Vars{Due: 1})
	b.acts(b.tick(), keeper.Connect)
	b.is(keeper.Vars{State: keeper.Trying, Clock: 1})
	b.acts(b.told(keeper.Lost))
	b.is(keeper.Vars{Clock: 1, Due: 3, Fails: 1})
	b.acts(b.tick())
	b.acts(b.tick(), keeper.Connect)
	b.is(keeper.Vars{State: keeper.Trying, Clock: 3, Fails: 1})
}

// P29.1: a keeper that is In asks, beats, and asks again.
func TestIn(t *testing.T) {
	b := create(t, small("web", "ssh", "a"))
	b.tick()
	b.acts(b.told(keeper.Entered), "web", "ssh", "a")
	b.is(keeper.Vars{State: keeper.In, Clock: 1, Asked: 3})
	b.acts(b.told(keeper.Denied))
	b.acts(b.told(keeper.Granted))
	b.ticks(1)
	b.is(keeper.Vars{State: keeper.In, Clock: 2, Asked: 1, Held: []string{"ssh"}})
	b.acts(b.told(keeper.Denied))
	b.ticks(1)
	b.acts(b.tick(), keeper.Ping, "web", "a")
	b.is(keeper.Vars{State: keeper.In, Clock: 4, Asked: 3, Held: []string{"ssh"}})
	b.tell(keeper.Granted, keeper.Granted) // the first one answers the Ping
	b.is(keeper.Vars{State: keeper.In, Clock: 4, Asked: 1, Held: []string{"web", "ssh"}})
	b.tell(keeper.Denied)
	b.ticks(2)
	b.acts(b.tick(), keeper.Ping, "a")
	b.tell(keeper.Denied, keeper.Granted) // a Ping may be denied
	b.is(keeper.Vars{State: keeper.In, Clock: 7, Held: []string{"web", "ssh", "a"}})
	b.ticks(2)
	b.acts(b.tick(), keeper.Ping)
	b.is(keeper.Vars{State: keeper.In, Clock: 10, Asked: 1, Held: []string{"web", "ssh", "a"}})
	b.ticks(2)
	b.acts(b.tick(), keeper.Hang)
	b.is(keeper.Vars{Clock: 13, Due: 15, Fails: 1})
}

// P29.1: a name that is denied again and again is asked for at each Ping, and one that
// occurs twice is asked for twice.
func TestDenied(t *testing.T) {
	b := create(t, small("x", "y", "x", "", "x"))
	b.tick()
	b.acts(b.told(keeper.Entered), "x", "y", "x", "", "x")
	b.tell(keeper.Granted, keeper.Denied, keeper.Denied, keeper.Denied, keeper.Granted)
	b.is(keeper.Vars{State: keeper.In, Clock: 1, Held: []string{"x", "x"}})
	for range 5 {
		b.ticks(2)
		b.acts(b.tick(), keeper.Ping, "y", "x", "")
		b.tell(keeper.Granted, keeper.Denied, keeper.Denied, keeper.Denied)
	}
	b.ticks(2)
	b.acts(b.tick(), keeper.Ping, "y", "x", "")
	b.tell(keeper.Granted, keeper.Denied, keeper.Granted, keeper.Granted)
	b.is(keeper.Vars{State: keeper.In, Clock: 19, Held: []string{"x", "x", "", "x"}})
	b.ticks(2)
	b.acts(b.tick(), keeper.Ping, "y")
}

// P29.1: whoever lacks a single answer when it is time to beat fails.
func TestUnanswered(t *testing.T) {
	for answers := range 7 {
		for beats := range 4 {
			b := create(t, small("a", "b"))
			b.enter()
			for range beats {
				b.tell(keeper.Denied, keeper.Granted, keeper.Denied)
				b.ticks(2)
				b.tick()
			}
			want := []any{keeper.Hang}
			asked := b.keeper.Vars().Asked
			for range answers {
				b.told(keeper.Granted)
			}
			b.ticks(2)
			if answers >= asked {
				want = []any{keeper.Ping}
			}
			b.acts(b.tick(), want...)
			if v := b.keeper.Vars(); answers < asked && !equal(v, keeper.Vars{Clock: v.Clock, Due: v.Clock + 2, Fails: 1}) {
				t.Errorf("%d answers of %d: %+v", answers, asked, v)
			}
		}
	}
}

// P29.1: Lost ends everything, in each state but Idle.
func TestLost(t *testing.T) {
	b := create(t, small("a", "b"))
	b.tell(keeper.Lost, keeper.Lost)
	b.is(keeper.Vars{Due: 1})
	b.tick()
	b.acts(b.told(keeper.Lost))
	b.is(keeper.Vars{Clock: 1, Due: 3, Fails: 1})
	b.ticks(1)
	b.tell(keeper.Lost)
	b.is(keeper.Vars{Clock: 2, Due: 3, Fails: 1})
	b.enter()
	b.tell(keeper.Granted)
	b.is(keeper.Vars{State: keeper.In, Clock: 3, Asked: 1, Held: []string{"a"}})
	b.acts(b.told(keeper.Lost))
	b.is(keeper.Vars{Clock: 3, Due: 5, Fails: 1})
	b.tell(keeper.Granted, keeper.Granted, keeper.Entered) // which come too late
	b.is(keeper.Vars{Clock: 3, Due: 5, Fails: 1})
	b.enter()
	b.is(keeper.Vars{State: keeper.In, Clock: 5, Asked: 2})
	b.tell(keeper.Denied, keeper.Granted)
	b.is(keeper.Vars{State: keeper.In, Clock: 5, Held: []string{"b"}})
}

// P29.1: what a keeper is told in a state in which that has no effect.
func TestNoEffect(t *testing.T) {
	unknown := []int{0, 5, -1, 6, math.MinInt, math.MaxInt, 1<<32 + 1, 1<<32 + 2}
	for state, more := range map[int][]int{
		keeper.Idle:   {keeper.Entered, keeper.Lost, keeper.Granted, keeper.Denied},
		keeper.Trying: {keeper.Granted, keeper.Denied},
		keeper.In:     {keeper.Entered},
	} {
		b := create(t, small("a", "b"))
		switch state {
		case keeper.Trying:
			b.tick()
		case keeper.In:
			b.enter()
			b.told(keeper.Granted)
		}
		v := b.keeper.Vars()
		for _, what := range append(more, unknown...) {
			b.acts(b.told(what))
			b.is(v)
		}
	}
	b := create(t, small("a"))
	b.enter()
	b.tell(keeper.Denied, keeper.Granted, keeper.Granted, keeper.Denied) // answers to nothing
	b.is(keeper.Vars{State: keeper.In, Clock: 1})
	b.ticks(2)
	b.acts(b.tick(), keeper.Ping, "a")
}

// P29.1: a second Entered does not begin anew.
func TestEnteredTwice(t *testing.T) {
	b := create(t, small("a"))
	b.enter()
	b.tell(keeper.Granted)
	b.ticks(1)
	b.acts(b.told(keeper.Entered))
	b.ticks(1)
	b.acts(b.tick(), keeper.Ping)
}

// P29.1: a keeper that is not let in gives up after Most ticks, which is a failure.
func TestTrying(t *testing.T) {
	b := create(t, small("a"))
	for n, wait := range []int{2, 4, 7, 7, 7} {
		b.acts(b.tick(), keeper.Connect)
		b.ticks(6)
		b.is(keeper.Vars{State: keeper.Trying, Clock: b.model.clock, Fails: n})
		b.acts(b.tick(), keeper.Hang)
		b.is(keeper.Vars{Clock: b.model.clock, Due: b.model.clock + wait, Fails: n + 1})
		b.ticks(wait - 1)
	}
	b.acts(b.tick(), keeper.Connect)
	b.ticks(6)
	b.acts(b.told(keeper.Entered), "a") // just in time
	b.is(keeper.Vars{State: keeper.In, Clock: b.model.clock, Asked: 1})
	b.ticks(2)
	b.acts(b.tick(), keeper.Hang)
	b.is(keeper.Vars{Clock: b.model.clock, Due: b.model.clock + 2, Fails: 1})
}

// P29.1, P29.2: the wait is doubled with each failure in a row, up to Most.
func TestWaits(t *testing.T) {
	for _, want := range []struct {
		first, most int
		waits       []int
	}{
		{1, 1, []int{1, 1, 1, 1}},
		{1, 20, []int{1, 2, 4, 8, 16, 20, 20}},
		{1, 16, []int{1, 2, 4, 8, 16, 16, 16}},
		{3, 100, []int{3, 6, 12, 24, 48, 96, 100, 100}},
		{5, 9, []int{5, 9, 9}},
		{5, 10, []int{5, 10, 10}},
		{5, 11, []int{5, 10, 11, 11}},
		{7, 7, []int{7, 7, 7}},
		{1, 1 << 20, []int{1, 2, 4, 8, 16, 32, 64, 128, 256, 512, 1024, 2048, 4096, 1 << 13, 1 << 14, 1 << 15, 1 << 16}},
	} {
		b := create(t, keeper.Config{First: want.first, Most: want.most, Beat: 1})
		b.acts(b.tick(), keeper.Connect)
		for range 3 { // a row ends when the keeper is let in
			for n, wait := range want.waits {
				b.told(keeper.Lost)
				b.is(keeper.Vars{Clock: b.model.clock, Due: b.model.clock + wait, Fails: n + 1})
				b.ticks(wait - 1)
				b.acts(b.tick(), keeper.Connect)
			}
			b.told(keeper.Entered)
			b.is(keeper.Vars{State: keeper.In, Clock: b.model.clock})
		}
	}
}

// after returns how many ticks it takes until a keeper acts.
func after(k *keeper.Keeper) (int, []keeper.Act) {
	for n := 1; n <= 1<<21; n++ {
		if acts := k.Tick(); len(acts) != 0 {
			return n, acts
		}
	}
	return 0, nil
}

// P29.1: First, Most and Beat are limited.
func TestLimits(t *testing.T) {
	const most = 1 << 20
	for _, want := range []struct{ first, most, beat, isFirst, isMost, isBeat int }{
		{1, 1, 1, 1, 1, 1},
		{0, 0, 0, 1, 1, 1},
		{-1, -1, -1, 1, 1, 1},
		{math.MinInt, math.MinInt, math.MinInt, 1, 1, 1},
		{5, 4, 2, 5, 5, 2},
		{5, math.MinInt, 2, 5, 5, 2},
		{0, 5, 3, 1, 5, 3},
		{most - 1, most - 2, most - 1, most - 1, most - 1, most - 1},
		{most, 1, most, most, most, most},
		{most + 1, most + 1, most + 1, most, most, most},
		{3, most + 1, most + 1, 3, most, most},
		{math.MaxInt, math.MaxInt, math.MaxInt, most, most, most},
		{math.MaxInt, math.MinInt, math.MaxInt, most, most, most},
		{2, math.MaxInt, 1, 2, most, 1},
		{1 << 32, 1 << 33, 1 << 34, most, most, most},
	} {
		k := keeper.New(keeper.Config{Names: []string{"a"}, First: want.first, Most: want.most, Beat: want.beat})
		k.Tick()
		k.Told(keeper.Lost)
		if v := k.Vars(); v.Due != 1+want.isFirst {
			t.Errorf("%+v: due at %d", want, v.Due)
		}
		if n, acts := after(k); n != want.isFirst || acts[0].Kind != keeper.Connect {
			t.Errorf("%+v: %v after %d", want, acts, n)
		}
		if n, acts := after(k); n != want.isMost || acts[0].Kind != keeper.Hang {
			t.Errorf("%+v: %v after %d", want, acts, n)
		}
		for v := k.Vars(); v.Due-v.Clock != want.isMost; v = k.Vars() {
			if v.Fails > 21 || v.Due-v.Clock > want.isMost {
				t.Fatalf("%+v: %+v", want, v)
			}
			after(k)
			k.Told(keeper.Lost)
		}
		after(k)
		k.Told(keeper.Entered)
		k.Told(keeper.Granted)
		for _, kind := range []int{keeper.Ping, keeper.Hang} {
			if n, acts := after(k); n != want.isBeat || len(acts) != 1 || acts[0].Kind != kind {
				t.Errorf("%+v: %v after %d", want, acts, n)
			}
		}
	}
}

// P29.1: failures in a row are counted up to 2^20.
func TestFails(t *testing.T) {
	k := keeper.New(keeper.Config{First: -1, Most: 1})
	for n := 1; n <= 1<<20+20; n++ {
		acts := k.Tick()
		k.Told(keeper.Lost)
		v := k.Vars()
		if len(acts) != 1 || acts[0].Kind != keeper.Connect || v.Fails != min(n, 1<<20) || v.Clock != n || v.Due != n+1 {
			t.Fatalf("%d: %v, %+v", n, acts, v)
		}
	}
	k.Tick()
	k.Told(keeper.Entered)
	if v := k.Vars(); v.Fails != 0 {
		t.Errorf("%+v", v)
	}
}

// P29.1: the first 16 names count.
func TestNames(t *testing.T) {
	for _, n := range []int{0, 1, 2, 15, 16, 17, 100} {
		var names []string
		var want []any
		for i := range n {
			names = append(names, fmt.Sprint("name ", i%20))
			if i < 16 {
				want = append(want, names[i])
			}
		}
		b := create(t, small(names...))
		b.tick()
		b.acts(b.told(keeper.Entered), want...)
		for range 100 {
			b.told(keeper.Denied)
		}
		b.ticks(2)
		b.acts(b.tick(), append([]any{keeper.Ping}, want...)...)
		for range 100 {
			b.told(keeper.Granted)
		}
		b.is(keeper.Vars{State: keeper.In, Clock: 4, Held: names[:min(n, 16)]})
	}
}

// Rule 5: a keeper neither keeps nor changes its arguments, and shares no results.
func TestMemory(t *testing.T) {
	names := slices.Repeat([]string{"a", "b", "c"}, 9)
	all := slices.Clone(names)
	b := create(t, small(names[:2]...))
	b.enter()
	if !slices.Equal(names, all) {
		t.Errorf("%q", names)
	}
	clear(names)
	b.tell(keeper.Denied, keeper.Granted)
	held := b.keeper.Vars().Held
	held[0] = "x"
	b.is(keeper.Vars{State: keeper.In, Clock: 1, Held: []string{"b"}})
	b.ticks(2)
	acts := b.tick()
	b.acts(acts, keeper.Ping, "a")
	clear(acts)
	b.tell(keeper.Granted, keeper.Denied)
	b.ticks(2)
	b.acts(b.tick(), keeper.Ping, "a")
	b.tell(keeper.Granted, keeper.Granted)
	b.is(keeper.Vars{State: keeper.In, Clock: 7, Held: []string{"a", "b"}})
}

// P29.3: without answers a keeper is In for at most twice Beat ticks.
func TestSilence(t *testing.T) {
	for beat := 1; beat < 20; beat++ {
		for at := range beat { // when the last answer comes
			b := create(t, keeper.Config{Names: []string{"a"}, First: 1, Most: 5, Beat: beat})
			b.enter()
			b.ticks(at)
			b.told(keeper.Granted)
			n := 0
			for ; b.keeper.Vars().State == keeper.In; n++ {
				b.tick()
			}
			if n != 2*beat-at {
				t.Errorf("beat %d, %d: In for %d ticks", beat, at, n)
			}
		}
	}
}
