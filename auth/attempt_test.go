package auth_test

import (
	"crypto/ed25519"
	"fmt"
	"math/big"
	"math/rand"
	"slices"
	"strings"
	"testing"

	"speakeasy/api"
	"speakeasy/auth"
	"speakeasy/message"
	"speakeasy/store"
)

// fails checks that an attempt fails at a new server, and that it is counted.
func fails(t *testing.T, what string, m message.Msg) {
	t.Helper()
	a := started(t, tenants(t), 2)
	handles(t, what, a, m, failure())
	isOut(t, what, a, 1)
	handles(t, what+", then a good one", a, request(session, seedU, "u"), success())
	isIn(t, what+", then a good one", a, "u", public(seedU), 1)
}

// P17.1, P17.2: every key of a tenant logs it in, and no one else.
func TestLogin(t *testing.T) {
	owners := map[[32]byte]string{seedT: "t", seedT2: "t", seedU: "u"}
	for _, seed := range [][32]byte{seedT, seedT2, seedU, seedX} {
		for _, user := range []string{"t", "u", "x", "", "T", "t ", "t\x00", "tt", "t,u"} {
			what := fmt.Sprintf("%q with %x", user, seed[:2])
			if user == "" || owners[seed] != user {
				fails(t, what, request(session, seed, user))
				fails(t, what, query(user, public(seed)))
				continue
			}
			a := started(t, tenants(t), 1)
			handles(t, what, a, query(user, public(seed)), pkOK(public(seed)))
			isOut(t, what, a, 0)
			handles(t, what, a, request(session, seed, user), success())
			isIn(t, what, a, user, public(seed), 0)
		}
	}
}

// P17.2: an unknown key does not log in the user without a name, whom no tenant is.
func TestNobody(t *testing.T) {
	fails(t, "nobody's request", request(session, seedX, ""))
	fails(t, "nobody's query", query("", public(seedX)))
}

// P17.1: any byte but 0 is the Bool true.
func TestBools(t *testing.T) {
	key := public(seedT)
	signed, asked := request(session, seedT, "t").S[3], queryRest(key)
	for b := range 256 {
		first := string([]byte{byte(b)})
		what := fmt.Sprintf("the Bool %d", b)
		if b == 0 {
			fails(t, what, asking("t", connection, method, first+signed[1:]))
			continue
		}
		fails(t, what, asking("t", connection, method, first+asked[1:]))
		a := started(t, tenants(t), 1)
		handles(t, what, a, asking("t", connection, method, first+signed[1:]), success())
		isIn(t, what, a, "t", key, 0)
	}
}

// P17.1: other methods and services.
func TestMethods(t *testing.T) {
	for _, rest := range []string{request(session, seedT, "t").S[3], queryRest(public(seedT)), ""} {
		for _, how := range []string{"", "none", "password", "hostbased", "keyboard-interactive", "Publickey", "publickey ", "publicke", "publickey,none"} {
			fails(t, "the method "+how, asking("t", connection, how, rest))
		}
		for _, name := range []string{"", userauth, "ssh", "ssh-connection ", "ssh-connectio", "SSH-CONNECTION"} {
			fails(t, "the service "+name, asking("t", name, method, rest))
		}
	}
}

// P17.1: rests that are not what they should be.
func TestForms(t *testing.T) {
	key := public(seedT)
	sig := signature(seedT, signedData(session, "t", key))
	k, s := string(key[:]), sig
	for _, rest := range []string{
		"", "\x00", "\x01", "\x01\x00",
		"\x00" + text(algorithm),
		"\x00" + text(algorithm) + text(""),
		"\x00" + text("") + text(blob(k)),
		"\x00" + text("ssh-rsa") + text(blob(k)),
		"\x00" + text("ssh-ed25519 ") + text(blob(k)),
		"\x00" + text("ssh-ed448") + text(text("ssh-ed448")+text(k)),
		"\x00" + text(algorithm) + text(text("ssh-rsa")+text(k)),
		"\x00" + text(algorithm) + text(text("")+text(k)),
		"\x00" + text(algorithm) + text(k),
		"\x00" + text(algorithm) + blob(k),
		"\x00" + text(algorithm) + text(blob(k[:31])),
		"\x00" + text(algorithm) + text(blob(k+"\x00")),
		"\x00" + text(algorithm) + text(blob("")),
		"\x00" + text(algorithm) + text(blob(k)+"\x00"),
		"\x00" + text(algorithm) + text(blob(k)) + "\x00",
		"\x00" + text(algorithm) + text(blob(k)) + text(""),
		"\x00" + text(algorithm) + text(blob(k)) + text(blob(s)),
		"\x00" + text(blob(k)) + text(algorithm),
		text(algorithm) + text(blob(k)),
		"\x01" + text(algorithm) + text(blob(k)),
		"\x01" + text(algorithm) + text(blob(k)) + text(""),
		"\x01" + text(algorithm) + text(blob(k)) + text(s),
		"\x01" + text(algorithm) + text(blob(k)) + blob(s),
		"\x01" + text(algorithm) + text(blob(k)) + text(blob(s[:63])),
		"\x01" + text(algorithm) + text(blob(k)) + text(blob(s+"\x00")),
		"\x01" + text(algorithm) + text(blob(k)) + text(blob("")),
		"\x01" + text(algorithm) + text(blob(k)) + text(text("ssh-rsa")+text(s)),
		"\x01" + text(algorithm) + text(blob(k)) + text(text("")+text(s)),
		"\x01" + text(algorithm) + text(blob(k)) + text(blob(s)+"\x00"),
		"\x01" + text(algorithm) + text(blob(k)) + text(blob(s)) + "\x00",
		"\x01" + text(algorithm) + text(blob(k)) + text(blob(s)) + text(""),
		"\x01" + text(algorithm) + text(blob(k)) + text(blob(s)) + text(blob(s)),
		"\x01" + text("") + text(blob(k)) + text(blob(s)),
		"\x01" + text("ssh-rsa") + text(blob(k)) + text(blob(s)),
		"\x01" + text("ssh-ed25519\x00") + text(blob(k)) + text(blob(s)),
		"\x01" + text(algorithm) + text(k) + text(blob(s)),
		"\x01" + text(algorithm) + text(text("ssh-rsa")+text(k)) + text(blob(s)),
		"\x01" + text(algorithm) + text(blob(k)+"\x00") + text(blob(s)),
		"\x01" + text(algorithm) + text(blob(k+"\x00")) + text(blob(s)),
		"\x01" + text(algorithm) + text(blob(s)) + text(blob(k)),
		"\x01" + text(blob(k)) + text(blob(s)),
		strings.Repeat("\x01", 32768), strings.Repeat("\x00", 32768), strings.Repeat("\xff", 32768),
		"\x01" + text(algorithm) + text(blob(k)) + text(blob(s)+strings.Repeat("x", 32000)),
		"\x00" + text(strings.Repeat("x", 32000)) + text(blob(k)),
		"\x00\xff\xff\xff\xff", "\x01" + text(algorithm) + "\xff\xff\xff\xff" + blob(k),
	} {
		fails(t, fmt.Sprintf("the rest %.300q", rest), asking("t", connection, method, rest))
	}
}

// P17.1: a rest that is cut off anywhere, or has a byte too many anywhere.
func TestCut(t *testing.T) {
	for _, m := range []message.Msg{query("t", public(seedT)), request(session, seedT, "t")} {
		rest := m.S[3]
		for i := range len(rest) {
			fails(t, fmt.Sprintf("%d bytes", i), asking("t", connection, method, rest[:i]))
			for _, b := range []string{"\x00", "\x01", "s"} {
				longer := asking("t", connection, method, rest[:i]+b+rest[i:])
				checkJudged(t, fmt.Sprintf("byte %d is put in", i), longer)
			}
		}
	}
}

// checkJudged compares the reply to a request of the user t with the expected one.
func checkJudged(t *testing.T, what string, m message.Msg) {
	t.Helper()
	a := started(t, tenants(t), 1)
	want := judge(m, session, [][32]byte{public(seedT), public(seedT2)})
	handles(t, what, a, m, want)
	if want.Kind == 52 {
		isIn(t, what, a, "t", public(seedT), 0)
		return
	}
	tries := 0
	if want.Kind == 51 {
		tries = 1
	}
	isOut(t, what, a, tries)
}

// P17.1, P17.2: every bit of the rest of a query and of a request changed.
func TestChangedBits(t *testing.T) {
	for _, m := range []message.Msg{query("t", public(seedT)), request(session, seedT, "t")} {
		for i := range len(m.S[3]) {
			for bit := range 8 {
				rest := []byte(m.S[3])
				rest[i] ^= 1 << bit
				checkJudged(t, fmt.Sprintf("bit %d of byte %d", bit, i), asking("t", connection, method, string(rest)))
			}
		}
	}
}

// P17.2: signatures of everything but the signed data of this session, user and key.
func TestOtherSignatures(t *testing.T) {
	key := public(seedT)
	good := signedData(session, "t", key)
	for i, data := range []string{
		"", good[:len(good)-1], good + "\x00", good[4:], good[1:], string(session[:]),
		signedData([32]byte{}, "t", key), signedData([32]byte{1}, "t", key), signedData([32]byte{31: 9}, "t", key),
		signedData(session, "u", key), signedData(session, "", key), signedData(session, "T", key),
		signedData(session, "t", public(seedT2)), signedData(session, "t", public(seedU)),
		strings.Replace(good, "\x32", "\x33", 1), strings.Replace(good, connection, userauth, 1), strings.Replace(good, method, "none", 1),
		strings.Replace(good, method+"\x01", method+"\x00", 1), strings.Replace(good, method+"\x01", method+"\x02", 1),
		good[4:36] + good[36:], text(string(session[:])) + asking("t", connection, method, "").Bytes(), queryRest(key), request(session, seedT, "t").Bytes(),
	} {
		fails(t, fmt.Sprintf("signed data %d", i), asking("t", connection, method, signedRest(key, signature(seedT, data))))
	}
	for _, seed := range [][32]byte{seedT2, seedU, seedX, {}} {
		fails(t, "another signer", asking("t", connection, method, signedRest(key, signature(seed, good))))
		fails(t, "another signer of its own data", asking("t", connection, method, signedRest(key, signature(seed, signedData(session, "t", public(seed))))))
	}
	fails(t, "zeros", asking("t", connection, method, signedRest(key, strings.Repeat("\x00", 64))))
	fails(t, "beyond L", asking("t", connection, method, signedRest(key, beyond(signature(seedT, good)))))
}

// beyond adds L to the number in a signature.
func beyond(sig string) string {
	number := []byte(sig[32:])
	slices.Reverse(number)
	order, _ := new(big.Int).SetString("7237005577332262213973186563042994240857116359379907606001950938285454250989", 10)
	sum := new(big.Int).Add(new(big.Int).SetBytes(number), order).FillBytes(make([]byte, 32))
	slices.Reverse(sum)
	return sig[:32] + string(sum)
}

// P17.1: a key that the store has, though it is no point: a query is answered, but
// nothing is signed with it.
func TestNoPoint(t *testing.T) {
	s := store.New(1, 5)
	for _, key := range [][32]byte{{2}, {0: 255, 31: 255}, {7}} {
		if err := s.Add("t", key); err != nil {
			t.Fatal(err)
		}
		a := started(t, s, 5)
		handles(t, "a query", a, query("t", key), pkOK(key))
		handles(t, "a request", a, asking("t", connection, method, signedRest(key, signature(seedT, signedData(session, "t", key)))), failure())
		handles(t, "zeros", a, asking("t", connection, method, signedRest(key, strings.Repeat("\x00", 64))), failure())
		isOut(t, "no point", a, 2)
	}
}

// P17.1: the zero key, which is a point and which zeros sign in some sessions: what
// is no key or no signature does not count as zeros.
func TestZeros(t *testing.T) {
	s, key, logins := store.New(1, 1), [32]byte{}, 0
	if err := s.Add("t", key); err != nil {
		t.Fatal(err)
	}
	zeros := strings.Repeat("\x00", 64)
	noKeys := []string{"", blob(""), blob(zeros[:31]), blob(zeros[:33]), text("ssh-rsa") + text(zeros[:32]), blob(zeros[:32]) + "\x00"}
	noSigns := []string{"", blob(""), blob(zeros[:63]), blob(zeros + "\x00"), text("ssh-rsa") + text(zeros), blob(zeros) + "\x00"}
	for i := range 40 {
		id := [32]byte{byte(i)}
		a := startedIn(t, s, id, 20)
		for _, bad := range noKeys {
			handles(t, "no key", a, asking("t", connection, method, "\x00"+text(algorithm)+text(bad)), failure())
			handles(t, "no key", a, asking("t", connection, method, "\x01"+text(algorithm)+text(bad)+text(blob(zeros))), failure())
		}
		for _, bad := range noSigns {
			handles(t, "no signature", a, asking("t", connection, method, queryRest(key)+text(bad)), failure())
			handles(t, "no signature", a, asking("t", connection, method, "\x01"+queryRest(key)[1:]+text(bad)), failure())
			a = startedIn(t, s, id, 20)
		}
		isOut(t, "zeros", a, 0)
		good := asking("t", connection, method, signedRest(key, zeros))
		want := judge(good, id, [][32]byte{key})
		handles(t, "zeros", a, good, want)
		if want.Kind == 52 {
			isIn(t, "zeros", a, "t", key, 0)
			logins++
		}
	}
	if logins == 0 {
		t.Error("zeros signed nothing")
	}
}

// P17.2: a request is good in its session only.
func TestSessions(t *testing.T) {
	s := tenants(t)
	for i := range 32 {
		for _, change := range []byte{1, 128} {
			id := session
			id[i] ^= change
			a := startedIn(t, s, id, 2)
			handles(t, "another session's request", a, request(session, seedT, "t"), failure())
			isOut(t, "another session's request", a, 1)
			handles(t, "this session's request", a, auth.Request(id, seedT, "t"), success())
			isIn(t, "this session's request", a, "t", public(seedT), 1)
		}
	}
}

// model is a server as the document says it, with the keys of all tenants.
type model struct {
	keys        map[string][][32]byte
	tries, fail int
	accepted    bool
	in          string
	key         [32]byte
}

func (m *model) service(name string) (message.Msg, error) {
	if name == userauth || name == connection && m.in != "" {
		m.accepted = true
		return accept(name), nil
	}
	return message.Msg{}, api.ErrKind
}

func (m *model) handle(x message.Msg) (message.Msg, error) {
	if len(x.S) != 4 {
		return message.Msg{}, api.ErrKind
	}
	if m.in != "" || !m.accepted {
		return message.Msg{}, api.ErrState
	}
	if m.fail == m.tries {
		return message.Msg{}, api.ErrAuth
	}
	reply := judge(x, session, m.keys[x.S[0]])
	switch reply.Kind {
	case 51:
		m.fail++
	case 52:
		m.in, m.key = x.S[0], [32]byte([]byte(x.S[3][39:71]))
	}
	return reply, nil
}

// P17.1, P17.2: any sequence of calls, while the store changes.
func TestCalls(t *testing.T) {
	random := rand.New(rand.NewSource(1))
	seeds := [][32]byte{seedT, seedT2, seedU, seedX}
	logins := 0
	for range 300 {
		s := store.New(8, 8)
		m := &model{keys: map[string][][32]byte{}, tries: 1 + random.Intn(8)}
		a := auth.New(s, session, m.tries)
		for range 25 {
			seed, user := seeds[random.Intn(4)], []string{"t", "u", ""}[random.Intn(3)]
			switch random.Intn(4) {
			case 0:
				toggle(t, s, m, user, public(seed))
			case 1:
				name := append(names(), userauth, userauth, userauth, userauth, connection, connection)[random.Intn(len(names())+6)]
				want, wrong := m.service(name)
				got, err := a.Service(service(name))
				wants(t, name, got, err, want, wrong)
			default:
				if who, err := s.Lookup(public(seed)); err == nil && random.Intn(2) == 0 {
					user = who
				}
				x := someRequest(random, seed, user)
				want, wrong := m.handle(x)
				got, err := a.Handle(x)
				wants(t, "a request", got, err, want, wrong)
			}
			if m.in == "" {
				isOut(t, "any calls", a, m.fail)
			} else {
				isIn(t, "any calls", a, m.in, m.key, m.fail)
			}
		}
		if m.in != "" {
			logins++
		}
	}
	if logins < 30 {
		t.Errorf("only %d logins", logins)
	}
}

// toggle adds a key to a tenant, or removes it from the tenant that has it.
func toggle(t *testing.T, s *store.Store, m *model, user string, key [32]byte) {
	t.Helper()
	if who, err := s.Revoke(key); err == nil {
		m.keys[who] = slices.DeleteFunc(m.keys[who], func(k [32]byte) bool { return k == key })
		return
	}
	if err := s.Add(user, key); (err == nil) != (user != "") {
		t.Fatal(err)
	} else if err == nil {
		m.keys[user] = append(m.keys[user], key)
	}
}

// someRequest returns a good request or query, or one with a fault.
func someRequest(random *rand.Rand, seed [32]byte, user string) message.Msg {
	x := request(session, seed, user)
	switch random.Intn(8) {
	case 0:
		x = query(user, public(seed))
	case 1:
		x = request([32]byte{}, seed, user)
	case 2:
		x.S[1+random.Intn(2)] = "none"
	case 3:
		rest := []byte(x.S[3])
		rest[random.Intn(len(rest))] ^= 1 << random.Intn(8)
		x.S[3] = string(rest)
	case 4:
		x.S = x.S[:random.Intn(4)]
	}
	return x
}

// P17.2: the reply is what the standard library says of the signature, for random
// keys, sessions and users.
func TestRandomLogins(t *testing.T) {
	random := rand.New(rand.NewSource(2))
	for range 100 {
		var seed, id [32]byte
		random.Read(seed[:])
		random.Read(id[:])
		user := string("abcdefghijklmnopqrstuvwxyz0123456789"[random.Intn(36)]) + strings.Repeat("z-9", random.Intn(20))
		s := store.New(1, 1)
		if err := s.Add(user, public(seed)); err != nil {
			t.Fatal(err)
		}
		a := startedIn(t, s, id, 1)
		x := auth.Request(id, seed, user)
		key := public(seed)
		if sig := x.S[3][len(x.S[3])-64:]; !ed25519.Verify(key[:], []byte(signedData(id, user, key)), []byte(sig)) {
			t.Fatalf("the signature %x is wrong", sig)
		}
		handles(t, "a login", a, x, success())
		isIn(t, "a login", a, user, key, 0)
	}
}
