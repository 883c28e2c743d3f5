package keeper_test

import (
	"fmt"
	"math"
	"math/rand"
	"slices"
	"testing"

	"speakeasy/keeper"
)

// model is a keeper as the document says it: each name has a status, and the time is
// counted from when something began.
type model struct {
	names                      []string
	status                     []string // of each name: "", "asked", "held", "denied"
	first, most, beat          int
	state, clock, due, fails   int
	tried, entered             int   // the ticks at which it began to try, and since which it waits to beat
	unanswered                 []int // indices of names; -1: a Ping
	connected, pings, failures int   // how often
}

func newModel(c keeper.Config) *model {
	m := &model{due: 1}
	m.first = min(max(c.First, 1), 1<<20)
	m.most = min(max(c.Most, m.first), 1<<20)
	m.beat = min(max(c.Beat, 1), 1<<20)
	for i, name := range c.Names {
		if i < 16 {
			m.names = append(m.names, name)
			m.status = append(m.status, "")
		}
	}
	return m
}

func (m *model) tick() []keeper.Act {
	m.clock++
	if m.state == keeper.Idle && m.clock == m.due {
		m.state, m.tried = keeper.Trying, m.clock
		m.connected++
		return []keeper.Act{{Kind: keeper.Connect}}
	}
	if m.state == keeper.Trying && m.clock-m.tried == m.most {
		m.fail()
		return []keeper.Act{{Kind: keeper.Hang}}
	}
	if m.state != keeper.In || m.clock-m.entered != m.beat {
		return nil
	}
	if len(m.unanswered) > 0 {
		m.fail()
		return []keeper.Act{{Kind: keeper.Hang}}
	}
	m.entered = m.clock
	m.unanswered = []int{-1}
	m.pings++
	return append([]keeper.Act{{Kind: keeper.Ping}}, m.ask("denied")...)
}

// ask asks for the names with a status.
func (m *model) ask(status string) []keeper.Act {
	var acts []keeper.Act
	for i, name := range m.names {
		if m.status[i] == status {
			m.status[i] = "asked"
			m.unanswered = append(m.unanswered, i)
			acts = append(acts, keeper.Act{Kind: keeper.Ask, Name: name})
		}
	}
	return acts
}

func (m *model) told(what int) []keeper.Act {
	switch what {
	case keeper.Entered:
		if m.state == keeper.Trying {
			m.state, m.entered, m.fails = keeper.In, m.clock, 0
			return m.ask("")
		}
	case keeper.Lost:
		if m.state != keeper.Idle {
			m.fail()
		}
	case keeper.Granted, keeper.Denied:
		if m.state == keeper.In && len(m.unanswered) > 0 {
			if i := m.unanswered[0]; i >= 0 {
				m.status[i] = map[int]string{keeper.Granted: "held", keeper.Denied: "denied"}[what]
			}
			m.unanswered = slices.Clone(m.unanswered[1:])
		}
	}
	return nil
}

func (m *model) fail() {
	m.failures++
	m.state = keeper.Idle
	m.due = m.clock + int(min(math.Ldexp(float64(m.first), m.fails), float64(m.most)))
	m.fails = min(m.fails+1, 1<<20)
	m.unanswered = nil
	for i := range m.status {
		m.status[i] = ""
	}
}

func (m *model) vars() keeper.Vars {
	v := keeper.Vars{State: m.state, Clock: m.clock, Due: m.due, Fails: m.fails, Asked: len(m.unanswered)}
	if m.state != keeper.Idle {
		v.Due = 0
	}
	for i, name := range m.names {
		if m.status[i] == "held" {
			v.Held = append(v.Held, name)
		}
	}
	return v
}

// both is a Keeper beside its model; every method calls both and compares the results.
type both struct {
	*testing.T
	keeper *keeper.Keeper
	model  *model
	calls  []string
	silent int // the ticks since the state became In, or since the last answer
}

func create(t *testing.T, c keeper.Config) *both {
	t.Helper()
	b := &both{T: t, keeper: keeper.New(c), model: newModel(c)}
	if b.keeper == nil {
		t.Fatal("no keeper")
	}
	b.same(nil, nil)
	return b
}

func equal(v, w keeper.Vars) bool {
	same := slices.Equal(v.Held, w.Held)
	return same && v.State == w.State && v.Clock == w.Clock && v.Due == w.Due && v.Fails == w.Fails && v.Asked == w.Asked
}

// same compares what a call returned, and what the keeper is then.
func (b *both) same(got, want []keeper.Act) {
	b.Helper()
	v, w := b.keeper.Vars(), b.model.vars()
	if !slices.Equal(got, want) || !equal(v, w) {
		b.Fatalf("%v: %+v, then %+v, not %+v, %+v", b.calls[max(len(b.calls)-30, 0):], got, v, want, w)
	}
}

// tick also checks P29.2, that the keeper connects when it is due and not before, and
// P29.3, that it does not stay In without answers.
func (b *both) tick() []keeper.Act {
	b.Helper()
	b.calls = append(b.calls, "tick")
	before := b.keeper.Vars()
	acts := b.keeper.Tick()
	b.same(acts, b.model.tick())
	due := before.State == keeper.Idle && before.Due == before.Clock+1
	if connects := slices.Contains(acts, keeper.Act{Kind: keeper.Connect}); connects != due || before.State == keeper.Idle && before.Due <= before.Clock {
		b.Fatalf("%+v: %+v", before, acts)
	}
	b.silent++
	if b.keeper.Vars().State == keeper.In && b.silent > 2*b.model.beat {
		b.Fatalf("%v: In for %d ticks without an answer", b.calls[max(len(b.calls)-30, 0):], b.silent)
	}
	return acts
}

func (b *both) told(what int) []keeper.Act {
	b.Helper()
	names := map[int]string{keeper.Entered: "Entered", keeper.Lost: "Lost", keeper.Granted: "Granted", keeper.Denied: "Denied"}
	b.calls = append(b.calls, names[what])
	before := b.keeper.Vars()
	acts := b.keeper.Told(what)
	b.same(acts, b.model.told(what))
	if after := b.keeper.Vars(); after.Asked != before.Asked || after.State != before.State {
		b.silent = 0
	}
	return acts
}

func (b *both) tell(l ...int) {
	b.Helper()
	for _, what := range l {
		b.told(what)
	}
}

// ticks lets time pass in which nothing is to be done.
func (b *both) ticks(n int) {
	b.Helper()
	for range n {
		if acts := b.tick(); len(acts) != 0 {
			b.Fatalf("%+v", acts)
		}
	}
}

// acts compares actions with kinds, where a name stands for an Ask.
func (b *both) acts(got []keeper.Act, want ...any) {
	b.Helper()
	var l []keeper.Act
	for _, x := range want {
		switch x := x.(type) {
		case int:
			l = append(l, keeper.Act{Kind: x})
		case string:
			l = append(l, keeper.Act{Kind: keeper.Ask, Name: x})
		}
	}
	if !slices.Equal(got, l) {
		b.Fatalf("%+v, not %+v", got, l)
	}
}

// is compares the state with numbers that the document gives.
func (b *both) is(v keeper.Vars) {
	b.Helper()
	if got := b.keeper.Vars(); !equal(got, v) {
		b.Fatalf("%+v, not %+v", got, v)
	}
}

// enter connects the keeper and lets it in.
func (b *both) enter() {
	b.Helper()
	for b.keeper.Vars().State == keeper.Idle {
		b.tick()
	}
	b.told(keeper.Entered)
	if v := b.keeper.Vars(); v.State != keeper.In {
		b.Fatalf("%+v", v)
	}
}

// P29.1, P29.2, P29.3: all sequences of calls up to a length.
func TestEverySequence(t *testing.T) {
	configs := []keeper.Config{
		{Names: []string{"a", "b"}, First: 1, Most: 1, Beat: 1},
		{Names: []string{"a"}, First: 1, Most: 2, Beat: 2},
		{First: 2, Most: 3, Beat: 1},
	}
	const length = 7
	count := int(math.Pow(5, length))
	for _, c := range configs {
		for n := range count {
			b := create(t, c)
			for range length {
				if n%5 == 0 {
					b.tick()
				} else {
					b.told(n % 5)
				}
				n /= 5
			}
		}
	}
}

// someConfig returns one next to the limits, or an ordinary one.
func someConfig(source *rand.Rand) keeper.Config {
	number := func() int {
		if source.Intn(8) == 0 {
			return []int{math.MinInt, -1, 0, 1 << 20, 1<<20 + 1, math.MaxInt}[source.Intn(6)]
		}
		return 1 + source.Intn(12)
	}
	c := keeper.Config{First: number(), Most: number() * (1 + source.Intn(5)), Beat: number()}
	for range source.Intn(6) * (1 + 4*source.Intn(2)) {
		c.Names = append(c.Names, string(rune('a'+source.Intn(9))))
	}
	return c
}

// P29.1, P29.2, P29.3: any calls, in any order, of which some are more probable for
// some keepers.
func TestRandom(t *testing.T) {
	source := rand.New(rand.NewSource(291))
	var connected, pings, failures, held int
	for range 1000 {
		b := create(t, someConfig(source))
		answers, granted, lost := source.Intn(4), source.Intn(4), 20+source.Intn(200)
		for range 300 {
			v := b.keeper.Vars()
			switch {
			case source.Intn(lost) == 0:
				b.told(keeper.Lost)
			case source.Intn(30) == 0:
				b.told(source.Intn(9) - 2)
			case v.State == keeper.Trying && source.Intn(4) == 0:
				b.told(keeper.Entered)
			case v.State == keeper.In && v.Asked > 0 && source.Intn(4) < answers:
				b.told(keeper.Granted + min(source.Intn(4)/(granted+1), 1))
			default:
				b.tick()
			}
			held = max(held, len(b.keeper.Vars().Held))
		}
		connected, pings, failures = connected+b.model.connected, pings+b.model.pings, failures+b.model.failures
	}
	if connected < 5000 || pings < 5000 || failures < 4000 || held != 16 {
		t.Errorf("%d times connected, %d pings, %d failures, %d names held", connected, pings, failures, held)
	}
}

// P29.1: the same calls have the same results, whatever another keeper is told.
func TestTwoKeepers(t *testing.T) {
	c := keeper.Config{Names: []string{"a", "b"}, First: 3, Most: 9, Beat: 4}
	a, b := create(t, c), create(t, c)
	a.enter()
	a.tell(keeper.Granted, keeper.Denied)
	b.is(keeper.Vars{Due: 1})
	b.tell(keeper.Lost, keeper.Granted)
	b.enter()
	a.ticks(3)
	a.acts(a.tick(), keeper.Ping, "b")
	b.is(keeper.Vars{State: keeper.In, Clock: 1, Asked: 2})
	if got, want := fmt.Sprintf("%+v", a.keeper.Vars()), "{State:2 Clock:5 Due:0 Fails:0 Asked:2 Held:[a]}"; got != want {
		t.Errorf("%s, not %s", got, want)
	}
}
