package tests

import (
	"fmt"
	"slices"
	"testing"

	"loop.example/g00129/impl"
)

const (
	mostNet    = 60
	mostPosts  = 8
	mostEvents = 300
	mostTold   = 5000
)

func equalPost(a impl.Post, b impl.Post) bool {
	return a.Port == b.Port && a.Unit == b.Unit && equalDevice(a.D, b.D)
}

func equalPacket(a impl.Packet, b impl.Packet) bool {
	return a.Back == b.Back && a.Port == b.Port && a.Number == b.Number && a.Unit == b.Unit && equalReq(a.Req, b.Req) && equalResp(a.Resp, b.Resp)
}

func equalNet(a []impl.Packet, b []impl.Packet) bool { return slices.EqualFunc(a, b, equalPacket) }

func equalServed(a impl.Served, b impl.Served) bool {
	return a.Port == b.Port && a.Number == b.Number && a.Unit == b.Unit && equalReq(a.Req, b.Req) && equalResp(a.Resp, b.Resp)
}

func equalWorld(a impl.World, b impl.World) bool {
	return equalFabric(a.F, b.F) && slices.EqualFunc(a.Posts, b.Posts, equalPost) && equalNet(a.Net, b.Net) &&
		equalReplies(a.Replies, b.Replies) && slices.EqualFunc(a.Served, b.Served, equalServed)
}

// cloneWorld has lists of its own where tests write into one.
func cloneWorld(w impl.World) impl.World {
	w.F, w.Posts, w.Net = cloneFabric(w.F), slices.Clone(w.Posts), slices.Clone(w.Net)
	for i, p := range w.Posts {
		w.Posts[i].D = cloneDevice(p.D)
	}
	for i, p := range w.Net {
		w.Net[i].Req, w.Net[i].Resp = cloneReq(p.Req), cloneResp(p.Resp)
	}
	w.Replies, w.Served = slices.Clone(w.Replies), slices.Clone(w.Served)
	return w
}

// slowPlaced tells whether a port and a unit are as chapter 15 tells them.
func slowPlaced(port int, unit int) bool { return port >= 0 && port <= 5 && unit >= 1 && unit <= 247 }

// slowPosts tells whether posts are as chapter 15 tells them: each one is held against all others.
func slowPosts(list []impl.Post) bool {
	for i, p := range list {
		if !slowPlaced(p.Port, p.Unit) || !impl.DeviceOk(p.D) {
			return false
		}
		for j, other := range list {
			if i != j && p.Port == other.Port && p.Unit == other.Unit {
				return false
			}
		}
	}
	return len(list) <= 8
}

// slowNet tells whether packets are as chapter 15 tells them.
func slowNet(list []impl.Packet) bool {
	for _, p := range list {
		carries := impl.ReqOk(p.Req) && equalResp(p.Resp, impl.Resp{})
		if p.Back {
			carries = impl.RespOk(p.Resp) && equalReq(p.Req, impl.Req{})
		}
		if !slowPlaced(p.Port, p.Unit) || !slowWord(p.Number) || !carries {
			return false
		}
	}
	return len(list) <= 60
}

// slowWorld is WorldOk as chapter 15 words it.
func slowWorld(w impl.World) bool {
	return slowFabric(w.F) && slowPosts(w.Posts) && slowNet(w.Net) && len(w.Replies) <= 5000 && len(w.Served) <= 5000
}

// slowDeliver is EvDeliver as chapter 15 words it, of a world that is the test's own.
func slowDeliver(w impl.World, at int) impl.World {
	p := w.Net[at]
	w.Net = slices.Concat(w.Net[:at], w.Net[at+1:])
	if p.Back {
		f, replies := slowFabricHear(w.F, p.Port, p.Number, p.Unit, p.Resp)
		w.F, w.Replies = f, append(w.Replies, replies...)
		return w
	}
	for i, post := range w.Posts {
		if post.Port != p.Port || post.Unit != p.Unit {
			continue
		}
		d, told := slowServe(post.D, p.Req)
		w.Posts[i].D = d
		w.Served = append(w.Served, impl.Served{Port: p.Port, Number: p.Number, Unit: p.Unit, Req: p.Req, Resp: told})
		if len(w.Net) < 60 {
			w.Net = append(w.Net, impl.Packet{Back: true, Port: p.Port, Number: p.Number, Unit: p.Unit, Resp: told})
		}
	}
	return w
}

// slowEvent is what Do tells of a right world, as chapter 15 words it.
func slowEvent(was impl.World, e impl.Event) (impl.World, bool) {
	w := cloneWorld(was)
	if e.Kind >= 3 && e.Kind <= 5 && (e.At < 0 || e.At >= len(w.Net)) {
		return was, false
	}
	switch e.Kind {
	case 1:
		f, replies := slowAsk(w.F, e.Source, w.F.Asked, e.Unit, e.Req)
		if len(replies) == 0 && f.Asked == w.F.Asked {
			return was, false
		}
		w.F, w.Replies = f, append(w.Replies, replies...)
	case 2:
		f, sent, replies := slowFabricTick(w.F)
		w.F, w.Replies = f, append(w.Replies, replies...)
		for _, s := range sent {
			if len(w.Net) < 60 {
				w.Net = append(w.Net, impl.Packet{Port: s.Port, Number: s.Order.Number, Unit: s.Order.Unit, Req: s.Order.Req})
			}
		}
	case 3:
		w = slowDeliver(w, e.At)
	case 4:
		w.Net = slices.Concat(w.Net[:e.At], w.Net[e.At+1:])
	case 5:
		if len(w.Net) >= 60 {
			return was, false
		}
		w.Net = append(w.Net, w.Net[e.At])
	case 6:
		f, swapped := slowSwap(w.F, e.Rules)
		if !swapped {
			return was, false
		}
		w.F = f
	default:
		return was, false
	}
	return w, true
}

// slowDo is Do as chapter 15 words it.
func slowDo(w impl.World, e impl.Event) (impl.World, bool) {
	if !slowWorld(w) {
		return w, false
	}
	return slowEvent(w, e)
}

// slowPlay is Play as chapter 15 words it.
func slowPlay(w impl.World, list []impl.Event) impl.World {
	if !slowWorld(w) {
		return w
	}
	for i, e := range list {
		if i < 300 {
			w, _ = slowEvent(w, e)
		}
	}
	return w
}

// worldIs wants that WorldOk tells this; the chapter's words must tell the same.
func worldIs(t *testing.T, what string, w impl.World, right bool) {
	t.Helper()
	if slow := slowWorld(w); slow != right {
		t.Fatalf("%s: as worded, WorldOk is %v", what, slow)
	}
	if got := impl.WorldOk(w); got != right {
		t.Errorf("%s: WorldOk is %v", what, got)
	}
}

// keepsTold wants that what was told in a world stands in the one behind it, in its order.
func keepsTold(t *testing.T, what string, was impl.World, w impl.World) {
	t.Helper()
	n, m := len(was.Replies), len(was.Served)
	if len(w.Replies) < n || !equalReplies(w.Replies[:n], was.Replies) {
		t.Errorf("%s: the replies %v became %v", what, was.Replies, w.Replies)
	}
	if len(w.Served) < m || !slices.EqualFunc(w.Served[:m], was.Served, equalServed) {
		t.Errorf("%s: what devices told, %v, became %v", what, was.Served, w.Served)
	}
}

// does wants of Do what the chapter's words tell, and that it is this; what was told stays.
func does(t *testing.T, what string, w impl.World, e impl.Event, ok bool) impl.World {
	t.Helper()
	want, slow := slowDo(w, e)
	if slow != ok {
		t.Fatalf("%s: as worded, Do of %v is %v", what, e, slow)
	}
	got, did := impl.Do(w, e)
	if !equalWorld(got, want) || did != ok {
		t.Errorf("%s: Do of %v and %v is %v, %v, not %v, %v", what, w, e, got, did, want, ok)
	}
	if !ok && !equalWorld(got, w) {
		t.Errorf("%s: what does nothing changes %v to %v", what, w, got)
	}
	keepsTold(t, what, w, got)
	if alone := impl.Play(w, []impl.Event{e}); !equalWorld(alone, got) {
		t.Errorf("%s: played, %v is %v, not %v", what, e, alone, got)
	}
	return got
}

// plays wants of Play what the chapter's words tell; what was told stays.
func plays(t *testing.T, what string, w impl.World, list []impl.Event) impl.World {
	t.Helper()
	got := impl.Play(w, list)
	if want := slowPlay(w, list); !equalWorld(got, want) {
		t.Errorf("%s: Play of %v and %v is %v, not %v", what, w, list, got, want)
	}
	keepsTold(t, what, w, got)
	return got
}

func askOf(source int, unit int, q impl.Req) impl.Event {
	return impl.Event{Kind: 1, Source: source, Unit: unit, Req: q}
}

func deliverAt(at int) impl.Event { return impl.Event{Kind: 3, At: at} }

func dropAt(at int) impl.Event { return impl.Event{Kind: 4, At: at} }

func doubleAt(at int) impl.Event { return impl.Event{Kind: 5, At: at} }

func swapFor(rules ...impl.Rule) impl.Event { return impl.Event{Kind: 6, Rules: rules} }

var tickEvent = impl.Event{Kind: 2}

// packetTo is a packet on its way to a device, packetBack one on its way back.
func packetTo(port int, number int, unit int, q impl.Req) impl.Packet {
	return impl.Packet{Port: port, Number: number, Unit: unit, Req: q}
}

func packetBack(port int, number int, unit int, a impl.Resp) impl.Packet {
	return impl.Packet{Back: true, Port: port, Number: number, Unit: unit, Resp: a}
}

func postOf(port int, unit int) impl.Post {
	return impl.Post{Port: port, Unit: unit, D: sampleDevice(uint32(port*300+unit), 64, 40, 64, 33)}
}

// plainNet gives packets to posts of plainWorld and to none, and answers to what is asked at line 0, in time, late and odd.
func plainNet() []impl.Packet {
	words := impl.Req{Kind: 16, At: 4, Words: []int{7, 8}}
	return []impl.Packet{
		packetTo(0, 700, 20, words),
		packetTo(3, 12, 20, askAt(3, 5, 2)),
		packetBack(0, 699, 20, fitting(words)),
		packetTo(1, 65535, 21, askAt(15, 6, 9)),
		packetBack(0, 700, 20, fitting(words)),
		packetBack(5, 0, 247, impl.Resp{Kind: 3, Fault: 2}),
		packetTo(0, 0, 1, askAt(1, 60, 9)),
	}
}

// plainWorld gives a right world: plainFabric, four posts, seven packets, and what was told by now.
func plainWorld() impl.World {
	q, list := splitOf(2, 3)
	p := impl.Pend{Source: 3, Tag: 4, Req: q, Parts: list}
	return cloneWorld(impl.World{
		F:     plainFabric(),
		Posts: []impl.Post{postOf(0, 20), postOf(1, 21), postOf(0, 1), postOf(5, 247)},
		Net:   plainNet(),
		Replies: []impl.Reply{
			{Source: 3, Tag: 4, Req: q, Parts: list, Told: answersTo(p), Resp: fitting(q)},
			{Source: 1000, Tag: 2, Req: askAt(6, 7, 1), Resp: impl.Resp{Kind: 6, Fault: 10}},
		},
		Served: []impl.Served{{Port: 1, Number: 6, Unit: 21, Req: askAt(16, 6, 3), Resp: fitting(askAt(16, 6, 3))}},
	})
}

// someEvents gives events each of which does something in plainWorld.
func someEvents() []impl.Event {
	list := []impl.Event{askOf(0, 9, askAt(3, 5, 2)), askOf(7, 8, askAt(3, 5, 2)), tickEvent, doubleAt(6), dropAt(6), swapFor(), swapFor(rulesFrom(24)...)}
	for at := range plainNet() {
		list = append(list, deliverAt(at), dropAt(at), doubleAt(at))
	}
	return list
}

// noEvents gives events none of which does something in plainWorld.
func noEvents() []impl.Event {
	list := []impl.Event{{}, askOf(-1, 9, askAt(3, 5, 2)), askOf(0, 9, impl.Req{}), swapFor(impl.Rule{}), swapFor(rulesFrom(25)...)}
	for _, kind := range append([]int{-6, -2, -1, 0, 7, 8, 258}, farNumbers...) {
		list = append(list, impl.Event{Kind: kind, Unit: 9, Req: askAt(3, 5, 2), Rules: rulesFrom(2)})
	}
	for _, at := range append([]int{-2, -1, 7, 8, 60, 61}, farNumbers...) {
		list = append(list, deliverAt(at), dropAt(at), doubleAt(at))
	}
	return list
}

// A world that is not right is left as it is by all events.
func leavesWorld(t *testing.T, what string, w impl.World) {
	t.Helper()
	worldIs(t, what, w, false)
	events := someEvents()
	for _, e := range events {
		does(t, what, w, e, false)
	}
	for _, list := range [][]impl.Event{nil, events} {
		if got := plays(t, what, w, list); !equalWorld(got, w) {
			t.Errorf("%s: %v is played to %v", what, w, got)
		}
	}
}

func TestWorldConstants(t *testing.T) {
	if impl.MaxNet != 60 || impl.MaxDevices != 8 || impl.MaxEvents != 300 {
		t.Error("other limits")
	}
	for i, kind := range []int{impl.EvAsk, impl.EvTick, impl.EvDeliver, impl.EvDrop, impl.EvDouble, impl.EvSwap} {
		if kind != i+1 {
			t.Errorf("the event %d is %d", i+1, kind)
		}
	}
}

// rightPosts gives lists of none to MaxDevices posts, at the ends of what is right, of one port and of one unit.
func rightPosts() [][]impl.Post {
	list := [][]impl.Post{nil, {}, {postOf(0, 1)}, {postOf(5, 247)}, {postOf(0, 247), postOf(5, 1)}, {{Unit: 1}}, {{Port: 5, Unit: 247, D: impl.DeviceNew(64)}}}
	for n := 1; n <= 8; n++ {
		var units, ports, same []impl.Post
		for i := range n {
			units = append(units, postOf(3, 240+i))
			ports = append(ports, postOf(i%6, 9+i/6))
			same = append(same, impl.Post{Port: i % 2, Unit: 1 + i/2, D: sampleDevice(4, 3, 3, 3, 3)})
		}
		list = append(list, units, ports, same)
	}
	for _, d := range rightDevices() {
		list = append(list, []impl.Post{postOf(2, 6), {Port: 2, Unit: 7, D: d}})
	}
	return list
}

func TestWorldNewOfRightLists(t *testing.T) {
	configs := rightConfigs()
	all := rightPosts()
	for i := range max(len(configs), len(all)) {
		c, posts := configs[i%len(configs)], all[i%len(all)]
		w, ok := impl.WorldNew(c, posts)
		want := impl.World{F: impl.Fabric{Set: c, Lines: slices.Repeat([]impl.Line{{Wait: c.Wait, Tries: c.Tries}}, 6)}, Posts: posts}
		if !ok || !equalWorld(w, want) {
			t.Errorf("WorldNew of %v and %v is %v, %v", c, posts, w, ok)
		}
		worldIs(t, "new", w, true)
	}
}

// noWorld wants that these make none.
func noWorld(t *testing.T, what string, c impl.Config, posts []impl.Post) {
	t.Helper()
	if w, ok := impl.WorldNew(c, posts); ok || !equalWorld(w, impl.World{}) {
		t.Errorf("%s: WorldNew of %v and %v is %v, %v", what, c, posts, w, ok)
	}
}

func TestWorldNewOfSettingsThatAreNotRight(t *testing.T) {
	list := []impl.Config{{}, {Wait: 0, Tries: 1}, {Wait: 101, Tries: 1}, {Wait: -1}, {Wait: 1, Tries: -1}, {Wait: 1, Tries: 6}}
	for _, l := range wrongRules() {
		list = append(list, impl.Config{Wait: 3, Tries: 1, Rules: l})
	}
	for _, n := range farNumbers {
		list = append(list, impl.Config{Wait: n, Tries: 1}, impl.Config{Wait: 1, Tries: n})
	}
	for _, c := range list {
		noWorld(t, "no settings", c, nil)
		noWorld(t, "no settings", c, []impl.Post{postOf(0, 1), postOf(1, 1)})
	}
}

// wrongPosts gives lists of posts that are not as told, by what is wrong.
func wrongPosts() map[string][][]impl.Post {
	lists := map[string][][]impl.Post{}
	for at := range 4 {
		put := func(what string, p impl.Post) {
			list := []impl.Post{postOf(0, 1), postOf(5, 247), postOf(3, 20), postOf(3, 21)}
			list[at] = p
			lists[what] = append(lists[what], list, []impl.Post{p})
		}
		for _, d := range wrongDevices() {
			put("a device", impl.Post{Port: 2, Unit: 8, D: d})
		}
		for _, n := range append([]int{-2, -1, 6, 7}, farNumbers...) {
			put("a port", postOf(n, 8))
		}
		for _, n := range append([]int{-2, -1, 0, 248, 249, 255}, farNumbers...) {
			put("a unit", postOf(2, n))
		}
	}
	for i := range 8 {
		for j := range i {
			list := slices.Clone(rightPosts()[len(rightPosts())-len(rightDevices())-3])
			list[i].Port, list[i].Unit = list[j].Port, list[j].Unit
			lists["two of one"] = append(lists["two of one"], list[:i+1], list)
		}
	}
	var many []impl.Post
	for i := range 247 {
		many = append(many, impl.Post{Port: i % 6, Unit: 1 + i})
	}
	lists["too many"] = [][]impl.Post{many[:9], many[:10], many[:16], many, slices.Concat(many[:8], many[:1])}
	return lists
}

func TestWorldNewOfPostsThatAreNotRight(t *testing.T) {
	for what, lists := range wrongPosts() {
		for _, list := range lists {
			if slowPosts(list) {
				t.Fatalf("%s: as worded, %v is right", what, list)
			}
			noWorld(t, what, impl.Config{Wait: 1}, list)
			noWorld(t, what, impl.Config{}, list)
		}
	}
}

// Posts of one port under several units, and of one unit at several ports, are right; so is one behind the length that is not.
func TestWorldNewLooksAtPortAndUnit(t *testing.T) {
	list := []impl.Post{postOf(1, 5), postOf(1, 6), postOf(2, 5), postOf(2, 6), postOf(5, 1), postOf(1, 5)}
	if w, ok := impl.WorldNew(impl.Config{Wait: 1}, list[:5]); !ok || len(w.Posts) != 5 {
		t.Errorf("WorldNew of %v is %v, %v", list[:5], w, ok)
	}
	noWorld(t, "the sixth is as the first", impl.Config{Wait: 1}, list)
}

// A worldEdit makes a world one at an end of what is right, or beyond it.
type worldEdit struct {
	what  string
	edit  func(*impl.World)
	right bool
}

// onPackets gives an edit of a packet to a device, and of one that is Back.
func onPackets(what string, edit func(*impl.Packet), right bool) (list []worldEdit) {
	for _, at := range []int{0, 4, 5, 6} {
		list = append(list, worldEdit{fmt.Sprint(what, " of packet ", at), func(w *impl.World) { edit(&w.Net[at]) }, right})
	}
	return list
}

// packetEdits gives edits of Port, Unit and Number at their ends and beyond.
func packetEdits() (list []worldEdit) {
	for _, n := range append([]int{-2, -1, 0, 5, 6, 7, 247, 248, 65535, 65536}, slices.Concat(farNumbers, noWords)...) {
		list = slices.Concat(list,
			onPackets(fmt.Sprint("Port ", n), func(p *impl.Packet) { p.Port = n }, n >= 0 && n <= 5),
			onPackets(fmt.Sprint("Unit ", n), func(p *impl.Packet) { p.Unit = n }, n >= 1 && n <= 247),
			onPackets(fmt.Sprint("Number ", n), func(p *impl.Packet) { p.Number = n }, n >= 0 && n <= 65535))
	}
	return list
}

// carryEdits gives edits of what packets carry.
func carryEdits() (list []worldEdit) {
	put := func(what string, p impl.Packet, right bool) {
		list = append(list, worldEdit{what, func(w *impl.World) { w.Net[3] = p }, right},
			worldEdit{what + ", last", func(w *impl.World) { w.Net = append(w.Net, p) }, right})
	}
	for _, q := range wrongQuestions() {
		put("a question that is not right", packetTo(1, 2, 3, q), false)
	}
	for i, k := range askKinds {
		q := askAt(k.kind, 8, min(k.most, 9))
		put("a question", packetTo(1, 2, 3, q), true)
		put("an answer", packetBack(1, 2, 3, fitting(q)), true)
		put("a fault", packetBack(1, 2, 3, impl.Resp{Kind: k.kind, Fault: 1 + 25*i}), true)
		put("a question, marked as Back", impl.Packet{Back: true, Unit: 1, Req: q}, false)
		put("an answer, not marked as Back", impl.Packet{Unit: 1, Resp: fitting(q)}, false)
		put("both", impl.Packet{Unit: 1, Req: q, Resp: fitting(q)}, false)
		put("both, Back", impl.Packet{Back: true, Unit: 1, Req: q, Resp: fitting(q)}, false)
		for _, a := range []impl.Resp{{}, {Kind: k.kind}, {Kind: k.kind, Fault: 256}, {Kind: k.kind, Fault: -1}, {Kind: k.kind, Fault: 6, At: 1}, {Kind: k.kind, Fault: 1, Words: []int{1}}, {Kind: 7, Fault: 6}} {
			put("an answer that is not right", packetBack(1, 2, 3, a), false)
		}
	}
	q := askAt(3, 8, 9)
	for i, a := range []impl.Resp{{Kind: 3}, {Fault: 1}, {At: 1}, {N: -1}, {Words: []int{0}}, {Bits: []bool{false}}} {
		put(fmt.Sprint("a question with something of an answer, ", i), impl.Packet{Unit: 1, Req: q, Resp: a}, false)
	}
	for i, some := range []impl.Req{{Kind: 3}, {At: 1}, {N: -1}, {WAt: 1}, {Words: []int{0}}, {Bits: []bool{false}}} {
		put(fmt.Sprint("an answer with something of a question, ", i), impl.Packet{Back: true, Unit: 1, Req: some, Resp: fitting(q)}, false)
	}
	put("empty lists beside a question", impl.Packet{Unit: 1, Req: q, Resp: impl.Resp{Words: []int{}, Bits: []bool{}}}, true)
	put("empty lists beside an answer", impl.Packet{Back: true, Unit: 1, Req: impl.Req{Words: []int{}, Bits: []bool{}}, Resp: fitting(q)}, true)
	put("no packet", impl.Packet{}, false)
	put("no packet, Back", impl.Packet{Back: true}, false)
	return list
}

// sizeEdits gives edits of how many there are of each.
func sizeEdits() []worldEdit {
	list := []worldEdit{
		{"nothing", func(*impl.World) {}, true},
		{"no posts", func(w *impl.World) { w.Posts = nil }, true},
		{"no packets", func(w *impl.World) { w.Net = nil }, true},
		{"no replies", func(w *impl.World) { w.Replies = nil }, true},
		{"nothing served", func(w *impl.World) { w.Served = nil }, true},
		{"two packets that are the same", func(w *impl.World) { w.Net[1] = w.Net[0] }, true},
		{"a packet too many behind the length", func(w *impl.World) { w.Net = append(w.Net, impl.Packet{Unit: -1})[:7] }, true},
		{"a reply that is none", func(w *impl.World) { w.Replies[0] = impl.Reply{Source: -1, Tag: -7, Parts: []impl.Part{{Port: -1}}} }, true},
		{"two replies of one tag", func(w *impl.World) { w.Replies[1].Tag = w.Replies[0].Tag }, true},
		{"served what is none", func(w *impl.World) { w.Served[0] = impl.Served{Port: -1, Number: -1, Unit: 999} }, true},
	}
	for _, n := range []int{59, 60, 61, 62, 120, 316} {
		list = append(list, worldEdit{fmt.Sprint(n, " packets"), func(w *impl.World) { w.Net = slices.Repeat(w.Net, n)[:n] }, n <= 60})
	}
	for _, n := range []int{4999, 5000, 5001, 5002, 10000} {
		list = append(list,
			worldEdit{fmt.Sprint(n, " replies"), func(w *impl.World) { w.Replies = slices.Repeat(w.Replies, n)[:n] }, n <= 5000},
			worldEdit{fmt.Sprint(n, " served"), func(w *impl.World) { w.Served = slices.Repeat(w.Served, n) }, n <= 5000})
	}
	for _, posts := range rightPosts() {
		list = append(list, worldEdit{"other posts", func(w *impl.World) { w.Posts = posts }, true})
	}
	return list
}

func TestWorldOkSentenceBySentence(t *testing.T) {
	for _, k := range slices.Concat(packetEdits(), carryEdits(), sizeEdits()) {
		w := plainWorld()
		k.edit(&w)
		worldIs(t, k.what, w, k.right)
	}
	for what, lists := range wrongPosts() {
		for _, posts := range lists {
			w := plainWorld()
			w.Posts = posts
			worldIs(t, what, w, false)
		}
	}
	worldIs(t, "the zero world", impl.World{}, false)
}

func TestWorldOkAsksTheFabric(t *testing.T) {
	for _, k := range slices.Concat(fieldEdits(), wholeEdits(), partEdits(), countEdits()) {
		w := plainWorld()
		k.edit(&w.F)
		worldIs(t, k.what, w, k.right)
	}
}

// Each packet, and each post, is looked at, of as many as there may be.
func TestEachPacketAndEachPostCounts(t *testing.T) {
	for at := range mostNet {
		w := plainWorld()
		w.Net = slices.Repeat(w.Net, 9)[:mostNet]
		worldIs(t, "full", w, true)
		w.Net[at].Unit = 248
		worldIs(t, "a unit", w, false)
	}
	for at := range mostPosts {
		w := plainWorld()
		w.Posts = slices.Clone(rightPosts()[len(rightPosts())-len(rightDevices())-2])
		worldIs(t, "full", w, len(w.Posts) == mostPosts)
		w.Posts[at].D.Holding = []int{65536}
		worldIs(t, "a device", w, false)
	}
}

func TestAWorldThatIsNotRightIsLeft(t *testing.T) {
	leavesWorld(t, "the zero world", impl.World{})
	edits := slices.Concat(packetEdits()[:40], carryEdits()[:3], sizeEdits())
	for _, k := range edits {
		w := plainWorld()
		k.edit(&w)
		if !k.right && len(w.Replies)+len(w.Served) < 6000 {
			leavesWorld(t, k.what, w)
		}
	}
	for what, lists := range wrongPosts() {
		w := plainWorld()
		w.Posts = lists[0]
		leavesWorld(t, what, w)
	}
	for _, k := range slices.Concat(fieldEdits()[:30], wholeEdits()[:23], partEdits(), countEdits()) {
		w := plainWorld()
		k.edit(&w.F)
		if !k.right {
			leavesWorld(t, k.what, w)
		}
	}
}

func TestEachEventDoesSomethingOrNothing(t *testing.T) {
	for _, e := range someEvents() {
		does(t, "something", plainWorld(), e, true)
	}
	for _, e := range noEvents() {
		does(t, "nothing", plainWorld(), e, false)
	}
}

// What an event's kind does not name is not looked at.
func TestOtherFieldsOfAnEventDoNotCount(t *testing.T) {
	for _, e := range someEvents() {
		want, _ := impl.Do(plainWorld(), e)
		odd := e
		if e.Kind != 1 {
			odd.Source, odd.Unit, odd.Req = -1, -1, impl.Req{Kind: 7, Words: []int{1}}
		}
		if e.Kind < 3 || e.Kind == 6 {
			odd.At = -1
		}
		if e.Kind != 6 {
			odd.Rules = []impl.Rule{{}}
		}
		if got := does(t, "odd", plainWorld(), odd, true); !equalWorld(got, want) {
			t.Errorf("Do of %v is %v, not %v", odd, got, want)
		}
	}
}

func TestAskThatOpensAMatter(t *testing.T) {
	for _, source := range []int{0, 1, 7, mostId - 1, mostId} {
		was := plainWorld()
		w := does(t, "opens", was, askOf(source, 9, askAt(3, 5, 2)), true)
		p := w.F.Open.List[len(w.F.Open.List)-1]
		if len(w.F.Open.List) != 4 || p.Source != source || p.Tag != 90 || p.Unit != 9 || w.F.Asked != 91 || !equalReq(p.Req, askAt(3, 5, 2)) {
			t.Errorf("asked by %d, %v is open", source, w.F.Open)
		}
		if !equalNet(w.Net, was.Net) || len(w.Replies) != 2 || len(w.Served) != 1 {
			t.Errorf("a question that is opened makes %v", w)
		}
	}
}

func TestAskThatIsToldAtOnce(t *testing.T) {
	for _, k := range []struct {
		unit  int
		q     impl.Req
		fault int
	}{
		{8, askAt(3, 5, 2), impl.FaultPath},
		{0, askAt(3, 5, 2), impl.FaultPath},
		{-1, askAt(6, 5, 1), impl.FaultPath},
		{9, askAt(3, 59, 2), impl.FaultAt},
		{9, askAt(4, 60, 1), impl.FaultAt},
	} {
		was := plainWorld()
		w := does(t, "told at once", was, askOf(5, k.unit, k.q), true)
		want := impl.Reply{Source: 5, Tag: 90, Req: k.q, Resp: impl.Resp{Kind: k.q.Kind, Fault: k.fault}}
		if len(w.Replies) != 3 || !equalReply(w.Replies[2], want) || w.F.Asked != 91 || w.F.Replied != 41 || w.F.Faults != 8 || !equalTable(w.F.Open, was.F.Open) {
			t.Errorf("%v of unit %d: %v, not %v", k.q, k.unit, w.Replies, want)
		}
		again := does(t, "told at once, again", w, askOf(6, k.unit, k.q), true)
		if len(again.Replies) != 4 || again.Replies[3].Tag != 91 || again.Replies[3].Source != 6 {
			t.Errorf("asked again, %v", again.Replies)
		}
	}
}

func TestAskThatIsToldBusy(t *testing.T) {
	w, ok := impl.WorldNew(impl.Config{Wait: 3, Tries: 1, Rules: []impl.Rule{ruleOf(2, 0, 99, 4, 50, 0)}}, nil)
	if !ok {
		t.Fatal("new")
	}
	for i := range 20 {
		w = does(t, "again and again", w, askOf(i, 9, askAt(3, i, 1)), true)
		if len(w.F.Open.List) != min(i+1, 16) || len(w.Replies) != max(0, i-15) {
			t.Errorf("asked %d times, %v are open, %v told", i+1, w.F.Open, w.Replies)
		}
	}
	for i, r := range w.Replies {
		if r.Source != 16+i || r.Tag != 16+i || r.Resp.Fault != impl.FaultBusy {
			t.Errorf("the %dth reply is %v", i, r)
		}
	}
}

func TestAskThatTellsAndCountsNothing(t *testing.T) {
	w := plainWorld()
	for _, source := range append([]int{-2, -1, mostId + 1, mostId + 2}, farNumbers...) {
		if source < 0 || source > mostId {
			does(t, "no source", w, askOf(source, 9, askAt(3, 5, 2)), false)
			does(t, "no source", w, askOf(source, 8, askAt(3, 5, 2)), false)
		}
	}
	for _, q := range wrongQuestions() {
		does(t, "no question", w, askOf(1, 9, q), false)
		does(t, "no question", w, askOf(1, 8, q), false)
	}
}

// Asked at its most is the last tag. A question that is told is told; of one that would be opened nothing is told and
// nothing counted, so that it does nothing.
func TestAskWhereAskedIsAtItsMost(t *testing.T) {
	w := plainWorld()
	w.F.Asked = mostCount - 1
	next := does(t, "the last but one", w, askOf(5, 9, askAt(3, 5, 2)), true)
	if p := next.F.Open.List[3]; p.Tag != mostCount-1 || next.F.Asked != mostCount {
		t.Errorf("%v is open", p)
	}
	told := does(t, "the last", next, askOf(5, 8, askAt(3, 5, 2)), true)
	if len(told.Replies) != 3 || told.Replies[2].Tag != mostCount || told.F.Asked != mostCount {
		t.Errorf("%v is told", told.Replies)
	}
	does(t, "the last", next, askOf(5, 9, askAt(3, 5, 2)), false)
}

// sixSend gives a world whose six lines each send at the next tick, with so many packets on their way.
func sixSend(n int) impl.World {
	return impl.World{F: waitingAt(0, 1, 1, 1, 1, 1, 1), Net: slices.Repeat(plainNet(), 9)[:n]}
}

func TestTickSendsAsFarAsThereIsRoom(t *testing.T) {
	for n := range mostNet + 1 {
		was := sixSend(n)
		w := does(t, "six", was, tickEvent, true)
		if len(w.Net) != min(n+6, 60) || !equalNet(w.Net[:n], was.Net) || w.F.Sent != was.F.Sent+6 || w.F.Now != 501 {
			t.Fatalf("of %d packets a tick makes %v", n, w.Net)
		}
		for i, p := range w.Net[n:] {
			if want := packetTo(i, 11*i, 9, impl.Req{Kind: 3, At: 0, N: 1}); !equalPacket(p, want) {
				t.Errorf("of %d packets, the one at %d is %v, not %v", n, n+i, p, want)
			}
		}
	}
}

// What was lost for want of room is asked again when it is due.
func TestTickAsksAgainWhatWasLost(t *testing.T) {
	w := sixSend(60)
	w = does(t, "all lost", w, tickEvent, true)
	w.Net = w.Net[:10]
	sent := w.F.Sent
	for range 10 {
		w = does(t, "again", w, tickEvent, true)
	}
	if len(w.Net) == 10 || w.F.Sent == sent {
		t.Errorf("%v is on its way", w.Net)
	}
	for _, p := range w.Net[10:] {
		if p.Number != 11*p.Port || p.Back {
			t.Errorf("asked again: %v", p)
		}
	}
}

func TestTickTellsWhatIsGivenUp(t *testing.T) {
	first, second := single(1, 0), single(2, 3)
	was := plainWorld()
	was.F = allAsk(first, second)
	w := does(t, "given up", was, tickEvent, true)
	target := impl.Resp{Kind: 3, Fault: impl.FaultTarget}
	want := append(slices.Clone(was.Replies), givenUp(first, impl.FaultTarget, target), givenUp(second, impl.FaultTarget, target))
	if !equalReplies(w.Replies, want) || len(w.F.Open.List) != 0 || !equalNet(w.Net, was.Net) {
		t.Errorf("told %v, not %v", w.Replies, want)
	}
}

func TestTickOfNothing(t *testing.T) {
	w, _ := impl.WorldNew(impl.Config{Wait: 1}, nil)
	for i := range 5 {
		w = does(t, "nothing", w, tickEvent, true)
		if w.F.Now != i+1 || len(w.Net)+len(w.Replies)+len(w.Served) != 0 {
			t.Errorf("behind %d ticks: %v", i+1, w)
		}
	}
	w.F.Now = lastTick
	if w = does(t, "the last tick", w, tickEvent, true); w.F.Now != 0 {
		t.Errorf("behind the last tick: %d", w.F.Now)
	}
}

func TestDeliverToAPost(t *testing.T) {
	for i, k := range askKinds {
		for _, q := range []impl.Req{askAt(k.kind, 8, min(k.most, 9)), askAt(k.kind, 64, 1)} {
			was := plainWorld()
			was.Net[3] = packetTo(0, 40+i, 1, q)
			d, told := slowServe(was.Posts[2].D, q)
			w := does(t, "to a post", was, deliverAt(3), true)
			want := cloneWorld(was)
			want.Posts[2].D = d
			want.Net = append(slices.Delete(want.Net, 3, 4), impl.Packet{Back: true, Port: 0, Number: 40 + i, Unit: 1, Resp: told})
			want.Served = append(want.Served, impl.Served{Port: 0, Number: 40 + i, Unit: 1, Req: q, Resp: told})
			if !equalWorld(w, want) {
				t.Errorf("%v is served: %v, not %v", q, w, want)
			}
		}
	}
}

func TestDeliverToNoPost(t *testing.T) {
	for _, p := range []impl.Packet{packetTo(3, 12, 20, askAt(3, 5, 2)), packetTo(1, 12, 20, askAt(16, 5, 2)), packetTo(0, 12, 21, askAt(6, 5, 1)), packetTo(5, 0, 246, askAt(5, 5, 1)), packetTo(4, 0, 247, askAt(1, 0, 1))} {
		for at := range 7 {
			was := plainWorld()
			was.Net[at] = p
			w := does(t, "to no post", was, deliverAt(at), true)
			want := cloneWorld(was)
			want.Net = slices.Delete(want.Net, at, at+1)
			if !equalWorld(w, want) {
				t.Errorf("%v comes to no post: %v, not %v", p, w, want)
			}
		}
	}
}

// Of several posts the one of the packet's Port and Unit is asked, and no other changes.
func TestDeliverToOneOfManyPosts(t *testing.T) {
	for _, posts := range rightPosts() {
		for i, post := range posts {
			w := impl.World{F: ruled(), Posts: posts, Net: []impl.Packet{packetTo(post.Port, 5, post.Unit, impl.Req{Kind: 6, At: 0, Words: []int{4711}})}}
			w = does(t, "one of many", w, deliverAt(0), true)
			for j := range posts {
				d := cloneDevice(posts[j].D)
				if j == i && len(d.Holding) > 0 {
					d.Holding[0] = 4711
				}
				if !equalDevice(w.Posts[j].D, d) {
					t.Errorf("asked was post %d, and post %d is %v", i, j, w.Posts[j])
				}
			}
		}
	}
}

// A packet is gone ahead of what it makes, so that there is always room for an answer.
func TestWhatADeviceToldWhereNetIsAtItsMost(t *testing.T) {
	for _, n := range []int{1, 2, 58, 59, 60} {
		for _, at := range []int{0, n / 2, n - 1} {
			was := plainWorld()
			was.Net = slices.Repeat(was.Net[1:2], n)
			was.Net[at] = packetTo(0, 9, 1, impl.Req{Kind: 3, At: 2, N: 2})
			w := does(t, "full", was, deliverAt(at), true)
			want := append(slices.Delete(slices.Clone(was.Net), at, at+1), packetBack(0, 9, 1, impl.Resp{Kind: 3, Words: was.Posts[2].D.Holding[2:4]}))
			if !equalNet(w.Net, want) || len(w.Served) != 2 {
				t.Errorf("of %d packets, the one at %d makes %v, not %v", n, at, w.Net, want)
			}
		}
	}
}

// oneDevice gives a world with one device, of which unit 9 has all holding words: at port 4, unit 50, asked under Wait 3 and Tries 1.
func oneDevice() impl.World {
	w, _ := impl.WorldNew(impl.Config{Wait: 3, Tries: 1, Rules: []impl.Rule{ruleOf(2, 0, 63, 4, 50, 0)}}, []impl.Post{{Port: 4, Unit: 50, D: impl.DeviceNew(64)}})
	return w
}

// wrote is a question that writes this word at place 5, and its answer.
func wrote(word int) (impl.Req, impl.Resp) {
	return impl.Req{Kind: 6, At: 5, Words: []int{word}}, impl.Resp{Kind: 6, At: 5, Words: []int{word}}
}

func TestDeliverBackInTime(t *testing.T) {
	q, a := wrote(77)
	w := does(t, "ask", oneDevice(), askOf(3, 9, q), true)
	w = does(t, "tick", w, tickEvent, true)
	w = does(t, "there", w, deliverAt(0), true)
	if want := []impl.Packet{packetBack(4, 0, 50, a)}; !equalNet(w.Net, want) || w.Posts[0].D.Holding[5] != 77 || len(w.Replies) != 0 {
		t.Fatalf("%v is on its way", w.Net)
	}
	w = does(t, "back", w, deliverAt(0), true)
	want := impl.Reply{Source: 3, Tag: 0, Req: q, Parts: []impl.Part{{Port: 4, Unit: 50, Req: q}}, Told: []impl.Resp{a}, Resp: a}
	if !equalReplies(w.Replies, []impl.Reply{want}) || len(w.Net) != 0 || len(w.F.Open.List) != 0 || w.F.Replied != 1 || w.F.Faults != 0 {
		t.Errorf("told %v, not %v", w.Replies, want)
	}
}

// passedOver wants that a packet which is Back tells nothing: it is gone, and all else stays.
func passedOver(t *testing.T, what string, was impl.World, at int) impl.World {
	t.Helper()
	w := does(t, what, was, deliverAt(at), true)
	want := cloneWorld(was)
	want.Net = slices.Delete(want.Net, at, at+1)
	if !equalWorld(w, want) {
		t.Errorf("%s: %v makes %v of %v", what, was.Net[at], w, was)
	}
	return w
}

// An answer to a question that was given up comes late: to nothing, or to the next question, which asks the same under another number.
func TestDeliverBackLate(t *testing.T) {
	q, _ := wrote(77)
	w := plays(t, "asked", oneDevice(), []impl.Event{askOf(3, 9, q), tickEvent, deliverAt(0), tickEvent, tickEvent, tickEvent, dropAt(1), tickEvent, tickEvent, tickEvent})
	if len(w.Replies) != 1 || w.Replies[0].Resp.Fault != impl.FaultTarget || len(w.Net) != 1 || !w.Net[0].Back {
		t.Fatalf("given up: %v, %v", w.Replies, w.Net)
	}
	passedOver(t, "nothing is open", w, 0)
	w = plays(t, "the same again", w, []impl.Event{askOf(4, 9, q), tickEvent})
	if len(w.Net) != 2 || w.Net[1].Number != 1 {
		t.Fatalf("asked: %v", w.Net)
	}
	w = passedOver(t, "the answer to the first question", w, 0)
	w = plays(t, "there and back", w, []impl.Event{deliverAt(0), deliverAt(0)})
	if len(w.Replies) != 2 || w.Replies[1].Tag != 1 || w.Replies[1].Resp.Fault != 0 || len(w.Served) != 2 {
		t.Errorf("told %v", w.Replies)
	}
}

// A question that was asked again has one number: whichever answer comes first tells it, the other one nothing.
func TestDeliverBackOfWhatWasAskedAgain(t *testing.T) {
	q, a := wrote(5)
	for _, first := range []int{0, 1} {
		w := plays(t, "asked again", oneDevice(), []impl.Event{askOf(3, 9, q), tickEvent, tickEvent, tickEvent, tickEvent, deliverAt(0), deliverAt(0)})
		if want := []impl.Packet{packetBack(4, 0, 50, a), packetBack(4, 0, 50, a)}; !equalNet(w.Net, want) || len(w.Served) != 2 {
			t.Fatalf("%v is on its way", w.Net)
		}
		w = does(t, "one of them", w, deliverAt(first), true)
		if len(w.Replies) != 1 || !equalResp(w.Replies[0].Resp, a) {
			t.Errorf("told %v", w.Replies)
		}
		passedOver(t, "the other one", w, 0)
	}
}

// A question that comes late to its device is served, and what that tells is passed over.
func TestDeliverOfALateQuestion(t *testing.T) {
	q, _ := wrote(5)
	other, _ := wrote(6)
	w := plays(t, "two of one", oneDevice(), []impl.Event{askOf(3, 9, q), tickEvent, doubleAt(0), deliverAt(0), deliverAt(1)})
	w = plays(t, "another", w, []impl.Event{askOf(3, 9, other), tickEvent, deliverAt(1), deliverAt(1)})
	if len(w.Replies) != 2 || w.Posts[0].D.Holding[5] != 6 || len(w.Net) != 1 || w.Net[0].Back {
		t.Fatalf("told %v; %v is on its way", w.Replies, w.Net)
	}
	w = does(t, "late", w, deliverAt(0), true)
	if w.Posts[0].D.Holding[5] != 5 || len(w.Served) != 3 || len(w.Replies) != 2 {
		t.Errorf("late: %v", w)
	}
	passedOver(t, "its answer", w, 0)
}

func TestDeliverBackTwice(t *testing.T) {
	q, a := wrote(5)
	w := plays(t, "back, twice", oneDevice(), []impl.Event{askOf(3, 9, q), tickEvent, deliverAt(0), doubleAt(0), doubleAt(1), deliverAt(1)})
	if len(w.Replies) != 1 || !equalResp(w.Replies[0].Resp, a) || len(w.Net) != 2 {
		t.Fatalf("told %v; %v is on its way", w.Replies, w.Net)
	}
	w = passedOver(t, "twice", w, 1)
	passedOver(t, "three times", w, 0)
}

// An answer under another number, of another unit, at another port, or to another question is passed over.
func TestDeliverBackOfAnother(t *testing.T) {
	q, a := wrote(5)
	w := plays(t, "asked", oneDevice(), []impl.Event{askOf(3, 9, q), tickEvent})
	list := []impl.Packet{packetBack(4, 1, 50, a), packetBack(4, 65535, 50, a), packetBack(4, 0, 51, a), packetBack(4, 0, 1, a), packetBack(3, 0, 50, a), packetBack(5, 0, 50, a), packetBack(0, 0, 50, a)}
	for _, a := range []impl.Resp{{Kind: 6, At: 5, Words: []int{6}}, {Kind: 6, At: 4, Words: []int{5}}, {Kind: 3, Words: []int{5}}, {Kind: 16, At: 5, N: 1}, {Kind: 5, Fault: 2}} {
		list = append(list, packetBack(4, 0, 50, a))
	}
	for _, p := range list {
		odd := cloneWorld(w)
		odd.Net = []impl.Packet{p, p}
		passedOver(t, "another", odd, 0)
		passedOver(t, "another", odd, 1)
	}
	for _, a := range []impl.Resp{a, {Kind: 6, Fault: 1}, {Kind: 6, Fault: 255}} {
		mine := cloneWorld(w)
		mine.Net = []impl.Packet{packetBack(4, 0, 50, a)}
		mine = does(t, "its own", mine, deliverAt(0), true)
		if len(mine.Replies) != 1 || !equalResp(mine.Replies[0].Resp, a) {
			t.Errorf("told %v, not %v", mine.Replies, a)
		}
	}
}

// Numbers go round: an answer that is 65536 questions late is taken for the one that is asked, if it suits.
func TestNumbersOfPacketsGoRound(t *testing.T) {
	q, a := wrote(5)
	w := oneDevice()
	w.F.Lines[4].Next = 65535
	w = plays(t, "the last number", w, []impl.Event{askOf(3, 9, q), tickEvent})
	if w.Net[0].Number != 65535 {
		t.Fatalf("%v is on its way", w.Net)
	}
	w = plays(t, "the first number", w, []impl.Event{deliverAt(0), deliverAt(0), askOf(3, 9, q), tickEvent})
	if len(w.Net) != 1 || w.Net[0].Number != 0 || len(w.Replies) != 1 {
		t.Fatalf("%v is on its way", w.Net)
	}
	w.Net = append(w.Net, packetBack(4, 65535, 50, a), packetBack(4, 0, 50, a))
	w = passedOver(t, "under the last number", w, 1)
	if w = does(t, "under the first number", w, deliverAt(1), true); len(w.Replies) != 2 {
		t.Errorf("told %v", w.Replies)
	}
}

func TestDrop(t *testing.T) {
	for _, n := range []int{1, 2, 7, 59, 60} {
		for at := range n {
			was := plainWorld()
			was.Net = slices.Repeat(was.Net, 9)[:n]
			w := does(t, "drop", was, dropAt(at), true)
			want := cloneWorld(was)
			want.Net = slices.Delete(want.Net, at, at+1)
			if !equalWorld(w, want) {
				t.Errorf("the packet at %d of %d is dropped: %v", at, n, w)
			}
		}
	}
}

func TestDouble(t *testing.T) {
	for _, n := range []int{1, 2, 7, 58, 59, 60} {
		for at := range n {
			was := plainWorld()
			was.Net = slices.Repeat(was.Net, 9)[:n]
			w := does(t, "double", was, doubleAt(at), n < 60)
			want := cloneWorld(was)
			if n < 60 {
				want.Net = append(want.Net, was.Net[at])
			}
			if !equalWorld(w, want) {
				t.Errorf("the packet at %d of %d is doubled: %v", at, n, w)
			}
		}
	}
}

// Of a place that there is none of nothing is done, of no packets and of many.
func TestAtIsAPlaceInNet(t *testing.T) {
	for _, n := range []int{0, 1, 7, 59, 60} {
		w := plainWorld()
		w.Net = slices.Repeat(w.Net, 9)[:n]
		for _, at := range append([]int{-1, -2, -n, n, n + 1, 60, 61}, farNumbers...) {
			if at >= 0 && at < n {
				continue
			}
			for _, e := range []impl.Event{deliverAt(at), dropAt(at), doubleAt(at)} {
				if got := does(t, "no such place", w, e, false); !equalWorld(got, w) {
					t.Errorf("the place %d of %d: %v", at, n, got)
				}
			}
		}
		if n > 0 {
			for _, at := range []int{0, n - 1} {
				does(t, "an end", w, deliverAt(at), true)
				does(t, "an end", w, dropAt(at), true)
				does(t, "an end", w, doubleAt(at), n < 60)
			}
		}
	}
}

func TestSwapInAWorld(t *testing.T) {
	for _, c := range rightConfigs() {
		was := plainWorld()
		w := does(t, "right rules", was, swapFor(c.Rules...), true)
		want := cloneWorld(was)
		want.F.Set.Rules = c.Rules
		if !equalWorld(w, want) {
			t.Errorf("swapped for %v: %v", c.Rules, w)
		}
	}
	for _, l := range wrongRules() {
		does(t, "wrong rules", plainWorld(), swapFor(l...), false)
	}
}

// What is open is told by the rules it was asked under.
func TestASwapLeavesWhatIsOpen(t *testing.T) {
	q, a := wrote(5)
	for _, rules := range [][]impl.Rule{nil, {ruleOf(2, 0, 63, 3, 51, 0)}, rulesFrom(24)} {
		w := plays(t, "swapped", oneDevice(), []impl.Event{askOf(3, 9, q), swapFor(rules...), tickEvent, deliverAt(0), swapFor(), deliverAt(0)})
		if len(w.Replies) != 1 || !equalResp(w.Replies[0].Resp, a) {
			t.Errorf("told %v", w.Replies)
		}
		if w = does(t, "then", w, askOf(3, 9, q), true); w.Replies[1].Resp.Fault != impl.FaultPath {
			t.Errorf("told %v", w.Replies)
		}
	}
}

func TestPlayOfNoEvents(t *testing.T) {
	for _, w := range []impl.World{plainWorld(), oneDevice(), sixSend(60)} {
		for _, list := range [][]impl.Event{nil, {}, someEvents()[:0]} {
			if got := plays(t, "none", w, list); !equalWorld(got, w) {
				t.Errorf("Play of nothing makes %v of %v", got, w)
			}
		}
	}
}

func TestPlayOfMaxEventsAndMore(t *testing.T) {
	for _, n := range []int{1, 2, 299, 300, 301, 302, 600, 1000} {
		w := plays(t, "ticks", oneDevice(), slices.Repeat([]impl.Event{tickEvent}, n))
		if w.F.Now != min(n, 300) {
			t.Errorf("%d ticks are played, and Now is %d", n, w.F.Now)
		}
	}
	// events that do nothing count, too
	for _, n := range []int{298, 299, 300} {
		list := append(slices.Repeat([]impl.Event{{}}, n), tickEvent, tickEvent, tickEvent)
		if w := plays(t, "nothing, then ticks", oneDevice(), list); w.F.Now != 300-n {
			t.Errorf("behind %d events that do nothing Now is %d", n, w.F.Now)
		}
	}
}

func TestPlayGoesByTheOrder(t *testing.T) {
	first, _ := wrote(1)
	second, _ := wrote(2)
	w := plays(t, "first, then second", oneDevice(), []impl.Event{askOf(1, 9, first), askOf(2, 9, second), tickEvent, deliverAt(0), deliverAt(0), tickEvent, deliverAt(0), deliverAt(0)})
	if w.Posts[0].D.Holding[5] != 2 || len(w.Replies) != 2 || w.Replies[0].Source != 1 || w.Replies[1].Source != 2 {
		t.Errorf("told %v", w.Replies)
	}
	w = plays(t, "second, then first", oneDevice(), []impl.Event{askOf(2, 9, second), askOf(1, 9, first), tickEvent, deliverAt(0), deliverAt(0), tickEvent, deliverAt(0), deliverAt(0)})
	if w.Posts[0].D.Holding[5] != 1 || len(w.Replies) != 2 || w.Replies[0].Source != 2 || w.Replies[1].Source != 1 {
		t.Errorf("told %v", w.Replies)
	}
}

// fullWorld gives a right world in which so many were told, by the fabric and by devices.
func fullWorld(replies int, served int) impl.World {
	w := plainWorld()
	w.Replies, w.Served = slices.Repeat(w.Replies, 2501)[:replies], slices.Repeat(w.Served, served)
	return w
}

// What is told goes behind Replies and Served also where they are at their most; the world is not right then, and does nothing more.
func TestWhatIsToldWhereItIsAtItsMost(t *testing.T) {
	for _, k := range []struct {
		what string
		w    impl.World
		e    impl.Event
	}{
		{"told at once", fullWorld(5000, 1), askOf(5, 8, askAt(3, 5, 2))},
		{"served", fullWorld(1, 5000), deliverAt(0)},
	} {
		w := does(t, k.what, k.w, k.e, true)
		if len(w.Replies)+len(w.Served) != 5002 {
			t.Errorf("%s: %d and %d", k.what, len(w.Replies), len(w.Served))
		}
		worldIs(t, k.what, w, false)
		does(t, k.what, w, k.e, false)
		if got := plays(t, k.what, w, []impl.Event{k.e, tickEvent}); got.F.Now != k.w.F.Now {
			t.Errorf("%s: a world that is not right is played on", k.what)
		}
	}
	does(t, "opened", fullWorld(5000, 5000), askOf(5, 9, askAt(3, 5, 2)), true)
	does(t, "passed over", fullWorld(5000, 5000), deliverAt(2), true)
	does(t, "no post", fullWorld(5000, 5000), deliverAt(1), true)
	right := does(t, "one less", fullWorld(4999, 1), askOf(5, 8, askAt(3, 5, 2)), true)
	worldIs(t, "one less", right, true)
}

// Whether a world is right is asked at the beginning of a play alone.
func TestPlayAsksAtTheBeginningAlone(t *testing.T) {
	list := slices.Repeat([]impl.Event{askOf(5, 8, askAt(3, 5, 2)), tickEvent}, 3)
	w := plays(t, "played on", fullWorld(4999, 1), list)
	if len(w.Replies) < 5002 || w.F.Now != 503 {
		t.Errorf("%d replies, at %d", len(w.Replies), w.F.Now)
	}
}

// playPosts gives posts for the devices of the first rules, the last of which is left out at times.
func playPosts(rules []impl.Rule, seed int) []impl.Post {
	var list []impl.Post
	for i, r := range rules {
		same := slices.ContainsFunc(list, func(p impl.Post) bool { return p.Port == r.Port && p.Unit == r.To })
		if len(list) < 8 && !same && (i+seed)%5 != 0 {
			list = append(list, impl.Post{Port: r.Port, Unit: r.To, D: sampleDevice(uint32(i), 64, 60, 64, 64)})
		}
	}
	return list
}

// playWorld gives a new world of which n tells the settings and the posts, near the ends of what goes round at times.
func playWorld(t *testing.T, n int) impl.World {
	t.Helper()
	rules := deskRules(n % 5)
	w, ok := impl.WorldNew(impl.Config{Wait: 1 + n%4, Tries: n % 3, Rules: rules}, playPosts(rules, n))
	if !ok {
		t.Fatalf("%v, %v make no world", rules, playPosts(rules, n))
	}
	w.F.Now = []int{0, lastTick - 20, 1<<31 - 20}[n%3]
	w.F.Lines[n%6].Next = 65530
	return w
}

// eventsOf gives events that bytes tell, three a piece; few of them do nothing, and most answers come.
func eventsOf(b []byte) (list []impl.Event) {
	for i := 0; i+2 < len(b); i += 3 {
		x, y := int(b[i+1]), int(b[i+2])
		at := x % (1 + y%8)
		switch c := b[i]; {
		case c < 50:
			list = append(list, askOf(x, 9, deskAsk(x, y)))
		case c < 53:
			list = append(list, askOf(x, y, deskAsk(x, y)))
		case c < 55:
			list = append(list, askOf(x, 9, wrongQuestions()[x%len(wrongQuestions())]))
		case c < 100:
			list = append(list, tickEvent)
		case c < 200:
			list = append(list, deliverAt(at))
		case c < 212:
			list = append(list, dropAt(at))
		case c < 236:
			list = append(list, doubleAt(at))
		case c < 240:
			list = append(list, swapFor(deskRules(x)...))
		case c < 241:
			list = append(list, swapFor(wrongRules()[x%40]...))
		case c < 248:
			list = append(list, impl.Event{Kind: 3 + x%3, At: y - 100})
		case c < 249:
			list = append(list, impl.Event{Kind: x - 100, At: y})
		default:
			list = append(list, deliverAt(0), deliverAt(0))
		}
	}
	return list
}

// oneByOne wants that events one by one are as one play, and that each does what the chapter's words tell.
func oneByOne(t *testing.T, w impl.World, list []impl.Event) impl.World {
	t.Helper()
	whole := impl.Play(w, list)
	for i, e := range list[:min(len(list), 300)] {
		want, ok := slowDo(w, e)
		next, did := impl.Do(w, e)
		if did != ok || !equalWorld(next, want) {
			t.Fatalf("the %dth event: Do of %v and %v is %v, %v, not %v, %v", i, w, e, next, did, want, ok)
		}
		keepsTold(t, fmt.Sprint("the ", i, "th event"), w, next)
		worldIs(t, "behind an event", next, true)
		w = next
	}
	if !equalWorld(whole, w) {
		t.Fatalf("%v is played to %v, and one by one to %v", list, whole, w)
	}
	return w
}

func TestEventsOneByOneAreAsOnePlay(t *testing.T) {
	for seed := range 60 {
		oneByOne(t, playWorld(t, seed), eventsOf(sampleBytes(uint32(seed), 600)))
	}
	for seed := range 10 {
		oneByOne(t, plainWorld(), eventsOf(sampleBytes(uint32(90+seed), 200)))
		oneByOne(t, sixSend(50+seed), eventsOf(sampleBytes(uint32(190+seed), 200)))
	}
}

// A row of events cut anywhere is the same world.
func TestARowCutAnywhere(t *testing.T) {
	for seed := range 24 {
		list := eventsOf(sampleBytes(uint32(seed+500), 240))
		for _, w := range []impl.World{playWorld(t, seed), plainWorld()} {
			whole := plays(t, "whole", w, list)
			for cut := range len(list) + 1 {
				first := impl.Play(w, list[:cut])
				keepsTold(t, "the first row", w, first)
				keepsTold(t, "the second row", first, whole)
				if got := impl.Play(first, list[cut:]); !equalWorld(got, whole) {
					t.Fatalf("%v, cut at %d, is played to %v, whole to %v", list, cut, got, whole)
				}
			}
		}
	}
}

// A long row is as long as it may be, and cut at its ends.
func TestALongRowCut(t *testing.T) {
	for seed := range 4 {
		list := eventsOf(sampleBytes(uint32(seed+700), 1200))
		w := playWorld(t, seed)
		whole := plays(t, "whole", w, list)
		for _, cut := range []int{0, 1, 150, 299, 300} {
			if got := impl.Play(impl.Play(w, list[:cut]), list[cut:300]); !equalWorld(got, whole) {
				t.Fatalf("cut at %d, it is played to %v, whole to %v", cut, got, whole)
			}
		}
	}
}

// In such rows all happens that may: questions are told, given up and told at once, packets are lost and there is no post.
func TestRowsTellMuch(t *testing.T) {
	replies, served, faults, most := 0, 0, map[int]int{}, 0
	for seed := range 60 {
		w := playWorld(t, seed)
		for _, e := range eventsOf(sampleBytes(uint32(seed), 600)) {
			w, _ = impl.Do(w, e)
			most = max(most, len(w.Net))
		}
		replies, served = replies+len(w.Replies), served+len(w.Served)
		for _, r := range w.Replies {
			faults[r.Resp.Fault]++
		}
	}
	if replies < 100 || served < 100 || most < 10 || faults[0] < 20 || faults[impl.FaultTarget] < 5 || faults[impl.FaultPath] < 5 {
		t.Errorf("%d replies, %d served, %d packets at most, the faults %v", replies, served, most, faults)
	}
}

func FuzzWorld(f *testing.F) {
	for _, b := range sampleLists() {
		f.Add(b[:min(len(b), 200)])
	}
	f.Fuzz(func(t *testing.T, b []byte) { oneByOne(t, playWorld(t, len(b)), eventsOf(b[:min(len(b), 200)])) })
}

// A watcher keeps, of a world that it sees from without, what was asked under which tag; each is replied to once.
func TestEachTagIsRepliedToOnce(t *testing.T) {
	for seed := range 40 {
		w := playWorld(t, seed)
		asked := map[int]impl.Event{}
		for _, e := range eventsOf(sampleBytes(uint32(seed+900), 600)) {
			tag := w.F.Asked
			next, did := impl.Do(w, e)
			if e.Kind == 1 && did {
				asked[tag] = e
			}
			w = next
		}
		met := map[int]int{}
		for _, r := range w.Replies {
			e := asked[r.Tag]
			if met[r.Tag]++; met[r.Tag] != 1 || r.Source != e.Source || !equalReq(r.Req, e.Req) || !impl.Suits(r.Req, r.Resp) {
				t.Fatalf("asked by %v, told %v", e, r)
			}
		}
		for _, p := range w.F.Open.List {
			if met[p.Tag]++; met[p.Tag] != 1 {
				t.Fatalf("%v is open, and replied to", p)
			}
		}
		if len(met) != len(asked) || len(asked) != w.F.Asked {
			t.Fatalf("%d were asked, %d are open or replied to", len(asked), len(met))
		}
	}
}

// What the functions of chapter 15 are handed, and what they answer.
type (
	worldArgs struct {
		World  impl.World
		Config impl.Config
		Posts  []impl.Post
		Event  impl.Event
		Events []impl.Event
	}
	worldAnswer struct {
		World impl.World
		Ok    bool
	}
)

// worldAsks are the functions of chapter 15 by their names.
var worldAsks = map[string]func(worldArgs) worldAnswer{
	"WorldNew": func(a worldArgs) worldAnswer {
		w, ok := impl.WorldNew(a.Config, a.Posts)
		return worldAnswer{w, ok}
	},
	"WorldOk": func(a worldArgs) worldAnswer { return worldAnswer{Ok: impl.WorldOk(a.World)} },
	"Do": func(a worldArgs) worldAnswer {
		w, ok := impl.Do(a.World, a.Event)
		return worldAnswer{w, ok}
	},
	"Play": func(a worldArgs) worldAnswer { return worldAnswer{World: impl.Play(a.World, a.Events)} },
}

// memoryWorlds gives worlds with what is open, on its way and told, of every kind; right and not.
func memoryWorlds(t *testing.T) []impl.World {
	wrong, fewer := plainWorld(), plainWorld()
	wrong.Net[3].Port, fewer.F.Lines = -1, fewer.F.Lines[:5]
	list := []impl.World{{}, plainWorld(), oneDevice(), sixSend(57), wrong, fewer}
	for i, k := range askKinds {
		w := plainWorld()
		w.F = holding(tableOf(i, 3), 63)
		q := askAt(k.kind, 8, min(k.most, 9))
		l := w.F.Lines[i%6]
		w.Net = append(w.Net, packetTo(0, 1, 20, q), packetBack(i%6, l.Number, max(1, l.Call.Unit), fitting(askAt(k.kind, 0, 1))), packetBack(0, 1, 20, fitting(q)))
		if l.Busy {
			w.Net = append(w.Net, packetBack(i%6, l.Number, l.Call.Unit, fitting(l.Call.Req)))
		}
		list = append(list, w)
	}
	for seed := range 4 {
		list = append(list, impl.Play(playWorld(t, seed), eventsOf(sampleBytes(uint32(seed), 300))))
	}
	return list
}

// memoryEvents gives events of every kind for a world, one for each packet.
func memoryEvents(w impl.World) []impl.Event {
	list := []impl.Event{{}, tickEvent, swapFor(rulesFrom(5)...), swapFor(wrongRules()[5]...), askOf(1, 9, impl.Req{Kind: 16, At: -1, Words: []int{1}})}
	for _, k := range askKinds {
		q := askAt(k.kind, 8, min(k.most, 9))
		if k.kind == 23 {
			q = bothAt(1, 2, 3, 4)
		}
		list = append(list, askOf(1, 9, q), askOf(1, 8, q))
	}
	for at := range w.Net {
		list = append(list, deliverAt(at), dropAt(at), doubleAt(at))
	}
	return list
}

func TestWorldsAnswerNewMemory(t *testing.T) {
	for i, w := range memoryWorlds(t) {
		events := memoryEvents(w)
		for _, e := range events {
			sharesNothing(t, "Do", worldArgs{World: w, Event: e}, worldAsks["Do"])
		}
		args := worldArgs{World: w, Config: rightConfigs()[i], Posts: w.Posts, Events: slices.Concat(events, events[:20], eventsOf(sampleBytes(uint32(i), 60)))}
		for what, ask := range worldAsks {
			sharesNothing(t, what, args, ask)
		}
		args.Config.Wait = 0
		sharesNothing(t, "WorldNew", args, worldAsks["WorldNew"])
	}
}

// sharedWorld gives a world in which packets, replies, what was served and posts share their lists.
func sharedWorld(i int) impl.World {
	k := askKinds[i]
	w := plainWorld()
	q := askAt(k.kind, 8, min(k.most, 9))
	part := impl.Part{Port: 0, Unit: 20, Req: q}
	a := fitting(q)
	w.Net = append(w.Net, packetTo(0, 1, 20, q), packetTo(0, 1, 20, q), packetBack(0, 700, 20, a), packetBack(0, 700, 20, a))
	reply := impl.Reply{Req: q, Parts: []impl.Part{part, part}, Told: []impl.Resp{a, a}, Resp: a}
	w.Replies = append(w.Replies, reply, reply)
	w.Served = append(w.Served, impl.Served{Req: q, Resp: a}, impl.Served{Req: q, Resp: a})
	w.Posts[1].D, w.Posts[2].D = w.Posts[0].D, w.Posts[0].D
	w.Posts[2].D.Words = w.Posts[2].D.Holding
	return w
}

// What an argument shares within itself, or with another one, its answer does not.
func TestWhatWorldsShare(t *testing.T) {
	for i := range askKinds {
		w := sharedWorld(i)
		worldIs(t, "shared", w, true)
		wrong := sharedWorld(i)
		wrong.F.Asked = -1
		for _, w := range []impl.World{w, wrong} {
			events := memoryEvents(w)
			for _, p := range w.Net {
				events = append(events, askOf(1, 9, p.Req), askOf(1, 8, p.Req))
			}
			events = append(events, swapFor(w.F.Set.Rules...))
			for _, e := range events {
				staysApart(t, "Do", worldArgs{World: w, Event: e}, worldAsks["Do"])
			}
			args := worldArgs{World: w, Config: w.F.Set, Posts: w.Posts, Events: slices.Concat(events, []impl.Event{doubleAt(0), doubleAt(0), deliverAt(0), deliverAt(0)}, events)}
			for what, ask := range worldAsks {
				staysApart(t, what, args, ask)
			}
		}
	}
}

// What is answered hangs on the arguments alone: asked again, and in another order, it is the same.
func TestWorldsKeepNothing(t *testing.T) {
	var all []worldArgs
	for i, w := range memoryWorlds(t) {
		for j, e := range memoryEvents(w) {
			if (i+j)%3 == 0 {
				all = append(all, worldArgs{World: w, Config: rightConfigs()[j%50], Posts: w.Posts, Event: e, Events: eventsOf(sampleBytes(uint32(j), 30))})
			}
		}
	}
	answers := func() (out []string) {
		for _, a := range all {
			out = append(out, fmt.Sprint(worldAsks["WorldNew"](a), worldAsks["WorldOk"](a), worldAsks["Do"](a), worldAsks["Play"](a)))
		}
		return out
	}
	first := answers()
	slices.Reverse(all)
	again := answers()
	slices.Reverse(first)
	if !slices.Equal(first, again) {
		t.Fatal("asked in another order, other things are answered")
	}
}
