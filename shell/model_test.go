package shell_test

import (
	"math/rand"
	"strconv"
	"strings"
	"testing"

	"relay/shell"
)

// place is by which key, and which of its numbers, the next record goes.
type place struct{ epoch, seq int }

// next is the place of a record that goes, and the one behind it.
func (p *place) next() place {
	was := *p
	p.seq++
	return was
}

// turned is the place of a key update that goes: behind it stands a new key.
func (p *place) turned() place {
	was := *p
	*p = place{epoch: p.epoch + 1}
	return was
}

// piece is a record that is on its way: what it is, and its place.
type piece struct {
	what string // hello, finished, update, or data
	at   place
	text string
}

// standing is the host's side of a connection, as a snapshot has it.
type standing struct {
	phase   string // start, wait, or open
	in, out place
}

// modelConn is a connection, without any key.
type modelConn struct {
	standing
	lives, isSealed bool // was anything sealed behind the snapshot?
	snapshot        *standing
	peer            string // greeted, open, or closed
	sends           place
	way             []piece
	heard, got      string
}

// model tells what a shell does whose disk has room.
type model struct {
	conns [4]*modelConn
	seals int
}

func (m *model) told(line string) string {
	words := strings.Split(line, " ")
	switch line {
	case "crash":
		return m.crash()
	case "seals":
		return strconv.Itoa(m.seals)
	}
	conn, _ := strconv.Atoi(words[1])
	c := m.conns[conn]
	if words[0] == "begin" {
		if c != nil {
			return "error 11"
		}
		m.conns[conn] = &modelConn{standing: standing{phase: "start"}, lives: true, peer: "greeted", way: []piece{{what: "hello"}}}
		return "ok"
	}
	if c == nil {
		return "error 13"
	}
	switch words[0] {
	case "heard":
		return c.heard
	case "got":
		return c.got
	case "tell":
		return c.tell(words[2])
	}
	if !c.lives {
		return "error 13"
	}
	return m.host(c, words)
}

func (m *model) host(c *modelConn, words []string) string {
	switch words[0] {
	case "come":
		return m.come(c)
	case "freeze":
		m.seals++
		was := c.standing
		c.snapshot, c.isSealed = &was, false
		return "ok"
	case "close":
		if c.phase != "start" {
			m.seal(c)
		}
		c.lives, c.peer = false, "closed"
		return "ok"
	}
	if c.phase != "open" {
		return "error 9"
	}
	switch words[0] {
	case "say":
		for range parts(words[2]) {
			m.send(c)
		}
		c.heard += words[2]
	case "give":
		m.send(c)
	case "turn":
		m.turn(c)
		c.way = append(c.way, piece{what: "update", at: c.sends.turned()})
	}
	return "ok"
}

// seal seals a record; turn: a key update; send: a record that isn't one, so that a new key may come ahead.
func (m *model) seal(c *modelConn) {
	c.out.next()
	m.seals++
	c.isSealed = true
}

func (m *model) turn(c *modelConn) {
	m.seal(c)
	c.out.turned()
}

func (m *model) send(c *modelConn) {
	if c.out.seq >= 62 {
		m.turn(c)
	}
	m.seal(c)
}

func (c *modelConn) tell(text string) string {
	if c.peer != "open" {
		return "error 9"
	}
	for _, part := range parts(text) {
		if c.sends.seq >= 62 {
			c.way = append(c.way, piece{what: "update", at: c.sends.turned()})
		}
		c.way = append(c.way, piece{what: "data", at: c.sends.next(), text: part})
	}
	return "ok"
}

func (m *model) come(c *modelConn) string {
	way, was := c.way, len(c.got)
	c.way = nil
	for _, p := range way {
		if p.what == "hello" {
			c.out = place{epoch: 1}
			m.seal(c)
			c.phase, c.in, c.out = "wait", place{epoch: 1}, place{epoch: 2}
			c.peer, c.sends = "open", place{epoch: 2}
			c.way = append(c.way, piece{what: "finished", at: place{epoch: 1}})
			continue
		}
		if p.at != c.in {
			m.seal(c)
			c.lives, c.peer = false, "closed"
			break
		}
		switch p.what {
		case "finished":
			c.phase, c.in = "open", place{epoch: 2}
		case "update":
			c.in.turned()
		case "data":
			c.in.next()
			c.got += p.text
		}
	}
	return strconv.Itoa(len(c.got) - was)
}

func (m *model) crash() string {
	var words []string
	for i, c := range m.conns {
		if c == nil || !c.lives {
			continue
		}
		if c.snapshot != nil && !c.isSealed {
			c.standing = *c.snapshot
			words = append(words, strconv.Itoa(i), "resumed")
			continue
		}
		c.lives = false
		words = append(words, strconv.Itoa(i), "aborted")
	}
	if len(words) == 0 {
		return "nobody"
	}
	return strings.Join(words, " ")
}

// parts is a text in records.
func parts(text string) []string {
	var out []string
	for len(text) > 256 {
		out, text = append(out, text[:256]), text[256:]
	}
	return append(out, text)
}

// orders are what a row is made of, some of them more often; rare ones end a connection.
var (
	orders = strings.Fields("come come come come say say say tell tell tell turn give freeze freeze freeze heard got seals begin")
	rare   = strings.Fields("crash crash crash crash close")
)

// row is random lines, with none of what isn't wanted in it.
func row(r *rand.Rand, length int, rarely int, unwanted string) []string {
	var out []string
	for i := range 4 {
		for _, name := range []string{"begin", "come", "come"}[:r.Intn(4)] {
			out = append(out, name+" "+strconv.Itoa(i))
		}
	}
	for len(out) < length {
		name := orders[r.Intn(len(orders))]
		if r.Intn(rarely) == 0 {
			name = rare[r.Intn(len(rare))]
		}
		if strings.Contains(unwanted, name) {
			continue
		}
		out = append(out, line(r, name))
	}
	return out
}

// line is an order, of a random connection and a random text.
func line(r *rand.Rand, name string) string {
	switch name {
	case "crash", "seals":
		return name
	case "say", "tell":
		size := 1 + r.Intn(9)
		if r.Intn(9) == 0 {
			size = 1 + r.Intn(1000)
		}
		return name + " " + strconv.Itoa(r.Intn(4)) + " " + strings.Repeat(string(rune('a'+r.Intn(26))), size)
	}
	return name + " " + strconv.Itoa(r.Intn(4))
}

func TestModel(t *testing.T) {
	r := rand.New(rand.NewSource(22))
	for i := range 400 {
		all := row(r, 40+r.Intn(80), 5+r.Intn(40), "")
		check(t, i, all)
	}
}

func TestModelOfLongRows(t *testing.T) {
	r := rand.New(rand.NewSource(23))
	for i := range 8 {
		var all []string
		for conn := range 4 {
			all = append(all, "begin "+strconv.Itoa(conn), "come "+strconv.Itoa(conn), "come "+strconv.Itoa(conn))
		}
		for range 2000 {
			name := orders[r.Intn(len(orders))]
			all = append(all, line(r, name))
		}
		check(t, i, append(all, "seals", "crash", "seals"))
	}
}

// check holds a row against the model.
func check(t *testing.T, i int, all []string) {
	t.Helper()
	var m model
	out := lines(shell.Run(strings.Join(all, "\n")))
	if len(out) != len(all) {
		t.Fatalf("row %d: %d lines of %d", i, len(out), len(all))
	}
	for at, line := range all {
		if want := m.told(line); out[at] != want {
			t.Fatalf("row %d, line %d, %.40q: %.40q, not %.40q\n%.3000q", i, at, line, out[at], want, all[:at])
		}
	}
}

// TestHandoffs: with other processes at whatever places the same is told.
func TestHandoffs(t *testing.T) {
	r := rand.New(rand.NewSource(24))
	for i := range 60 {
		all := row(r, 60, 30, "crash seals freeze")
		var moved []string
		isMore := map[int]int{}
		for _, line := range all {
			if r.Intn(3) > 0 {
				moved = append(moved, "freeze 0", "freeze 1", "freeze 2", "freeze 3", "crash")
			}
			isMore[len(moved)] = 1
			moved = append(moved, line)
		}
		var kept []string
		for at, told := range lines(shell.Run(strings.Join(moved, "\n"))) {
			if isMore[at] > 0 {
				kept = append(kept, told)
			} else if strings.Contains(told, "aborted") {
				t.Fatalf("row %d, line %d: %s", i, at, told)
			}
		}
		if want := shell.Run(strings.Join(all, "\n")); strings.Join(kept, "\n")+"\n" != want {
			t.Errorf("row %d: %.2000q\nnot %.2000q", i, kept, want)
		}
	}
}

// TestAnyText: of whatever text as many lines are told as it has.
func TestAnyText(t *testing.T) {
	r := rand.New(rand.NewSource(25))
	words := strings.Split("begin,come,say,tell,turn,give,close,freeze,crash,heard,got,seals,0,1,2,3,4, , , , , , ,\n,\n,\n,\n,x,\xff,\r,\t,\u00e9,\x00,11", ",")
	for range 300 {
		var text strings.Builder
		for range r.Intn(300) {
			text.WriteString(words[r.Intn(len(words))])
		}
		want := strings.Count(text.String(), "\n")
		if text.Len() > 0 && !strings.HasSuffix(text.String(), "\n") {
			want++
		}
		if out := shell.Run(text.String()); strings.Count(out, "\n") != want || out != "" && !strings.HasSuffix(out, "\n") {
			t.Errorf("%q: %q", text.String(), out)
		}
	}
}
