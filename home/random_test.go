package home_test

import (
	"fmt"
	"math"
	"math/rand"
	"strings"
	"testing"

	"speakeasy/keeper"
	"speakeasy/world"
)

// city is a home in which anything happens that may happen.
type city struct {
	*both
	source *rand.Rand
}

func newCity(t *testing.T, source *rand.Rand) *city {
	t.Helper()
	c := world.Config{
		Seed: fmt.Sprint("seed", source.Intn(1000)), Conns: 2 + source.Intn(4), Streams: 1 + source.Intn(4),
		Silent: 2 + source.Intn(20), Names: source.Intn(5), Life: 1 + source.Intn(20), Window: []int{1, 16, 64, 1000}[source.Intn(4)],
	}
	x := &city{both: create(t, c), source: source}
	for i, tenant := range []string{"t", "t", "t", "u"} {
		x.grant(tenant, someNames[i])
	}
	return x
}

func (c *city) pick(l ...string) string { return l[c.source.Intn(len(l))] }

func (c *city) name() string {
	if c.source.Intn(30) == 0 {
		return c.pick(someNames...)
	}
	return c.pick(someNames[:4]...)
}

// tenant returns whose key a name has, most of the time.
func (c *city) tenant(name string) string {
	if c.source.Intn(6) == 0 {
		return c.pick("t", "u", "", "T")
	}
	if name == "d" {
		return "u"
	}
	return "t"
}

func (c *city) alias() string {
	if c.source.Intn(20) == 0 {
		return c.pick("", "A", strings.Repeat("x", 256))
	}
	return c.pick("v", "w", "x", "y", "z")
}

// wish returns how a device is to be kept.
func (c *city) wish() keeper.Config {
	k := keeper.Config{First: 1 + c.source.Intn(3), Most: c.source.Intn(20), Beat: 2 + c.source.Intn(5)}
	for range c.source.Intn(4) {
		k.Names = append(k.Names, c.alias())
	}
	if c.source.Intn(20) == 0 {
		k.First = []int{math.MinInt, 0, 40}[c.source.Intn(3)]
	}
	if c.source.Intn(20) == 0 {
		k.Beat = []int{math.MinInt, 0, math.MaxInt}[c.source.Intn(3)]
	}
	return k
}

// act lets anything happen.
func (c *city) act() {
	c.Helper()
	name := c.name()
	switch c.source.Intn(48) {
	case 0, 1, 2, 3:
		c.keep(name, c.tenant(name), c.wish())
	case 4:
		c.leave(name)
	case 5, 6:
		c.cut(name)
	case 7:
		c.join(name, c.tenant(name))
	case 8:
		if c.source.Intn(2) == 0 {
			c.revoke(name)
		}
	case 9, 10:
		c.grant(c.pick("t", "t", "t", "u", "T"), name)
	case 11:
		c.run(c.source.Intn(9) - 1)
	case 12:
		c.carry(name, c.source.Intn(2), c.source.Intn(900))
	case 13:
		c.forward(name, c.alias())
	case 14:
		c.cancel(name, c.alias())
	case 15:
		c.beat(name)
	case 16, 17:
		c.dial(name, c.alias(), c.name())
	case 18:
		c.say(name, c.source.Intn(3), strings.Repeat("x", c.source.Intn(80)))
	case 19:
		c.hear(name, c.source.Intn(3))
	case 20:
		c.end(name, c.source.Intn(3))
	case 21, 22, 23:
		c.tells(name)
	default:
		c.tick()
	}
	c.check()
}

// P30.1: any calls, in any order, have the results that the document says.
func TestRandom(t *testing.T) {
	source := rand.New(rand.NewSource(301))
	actions, failed, held := map[int]int{}, 0, 0
	for range 15 {
		c := newCity(t, source)
		for range 300 {
			c.act()
			for _, name := range c.Kept() {
				held += len(c.Keeper(name).Held)
			}
		}
		for _, name := range someNames {
			c.tells(name)
		}
		for kind, n := range c.model.actions {
			actions[kind] += n
		}
		failed += c.model.failed
	}
	if actions[keeper.Connect] < 500 || actions[keeper.Ask] < 600 || actions[keeper.Ping] < 600 || actions[keeper.Hang] < 25 || failed < 60 || held < 4000 {
		t.Errorf("%v, %d of them failed, %d names were held", actions, failed, held)
	}
}

// P1: no arguments are too strange.
func TestStrange(t *testing.T) {
	b := create(t, world.Config{Seed: "\x00\xff"})
	b.grant("t", "\xff\x00")
	b.keep("\xff\x00", strings.Repeat("t", 40000), keeper.Config{}) // no packet can hold the request to log in
	b.ticks(3)
	b.leave("\xff\x00")
	b.keep("\xff\x00", "t", keeper.Config{Names: []string{"\xff", "", "x"}, First: math.MinInt, Most: math.MaxInt, Beat: 5})
	b.ticks(4)
	for _, name := range []string{"", "?", strings.Repeat("?", 5000)} {
		b.leave(name)
		b.tells(name)
		b.is(name, keeper.Vars{})
	}
}
