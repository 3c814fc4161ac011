package lock

import (
	"slices"

	"cairn/api"
	"cairn/number"
)

// limit of the numbers on a stack, on both sides of 0.
const limit = 1000000

func fits(n int) bool { return number.Within(n, -limit, limit) }

// machine is a stack at work. What fails only marks it: run stops there, and what the failed order still does to the stack is never seen.
type machine struct {
	stack  [api.MaxStack]int
	count  int
	height int
	failed bool
}

func (m *machine) run(l []api.Op) {
	orders := m.orders()
	for _, o := range l {
		if m.failed {
			return
		}
		orders[o.Kind](o.N)
	}
}

// left answers a copy, so that nothing of the machine is handed out.
func (m *machine) left() []int { return slices.Clone(m.stack[:m.count]) }

func (m *machine) fail() { m.failed = true }

func (m *machine) put(n int) {
	if m.count == len(m.stack) || !fits(n) {
		m.fail()
		return
	}
	m.stack[m.count] = n
	m.count++
}

func (m *machine) putAll(l []int) {
	for _, n := range l {
		m.put(n)
	}
}

func (m *machine) take() int {
	if m.count == 0 {
		m.fail()
		return 0
	}
	m.count--
	return m.stack[m.count]
}

// orders tells by kind what each order does with its N, which only a Push heeds.
func (m *machine) orders() [api.Mix + 1]func(n int) {
	return [api.Mix + 1]func(n int){
		api.Push:   m.put,
		api.Dup:    m.dup,
		api.Swap:   m.swap,
		api.Drop:   m.drop,
		api.Add:    m.two(func(a, b int) int { return a + b }),
		api.Sub:    m.two(func(a, b int) int { return a - b }),
		api.Same:   m.two(func(a, b int) int { return truth(a == b) }),
		api.Less:   m.two(func(a, b int) int { return truth(a < b) }),
		api.Not:    m.one(func(a int) int { return truth(a == 0) }),
		api.And:    m.two(func(a, b int) int { return truth(a != 0 && b != 0) }),
		api.Verify: m.verify,
		api.Height: m.putHeight,
		api.Mix:    m.one(mix),
	}
}

func (m *machine) dup(int) {
	a := m.take()
	m.put(a)
	m.put(a)
}

func (m *machine) swap(int) {
	b := m.take()
	a := m.take()
	m.put(b)
	m.put(a)
}

func (m *machine) drop(int) { m.take() }

func (m *machine) verify(int) {
	if m.take() == 0 {
		m.fail()
	}
}

func (m *machine) putHeight(int) { m.put(m.height) }

// one makes an order of what it puts for the number that it takes.
func (m *machine) one(f func(a int) int) func(int) {
	return func(int) { m.put(f(m.take())) }
}

// two makes an order of what it puts for the two numbers that it takes, the top being b.
func (m *machine) two(f func(a, b int) int) func(int) {
	return func(int) {
		b := m.take()
		a := m.take()
		m.put(f(a, b))
	}
}

func truth(b bool) int {
	if b {
		return 1
	}
	return 0
}

// mix counts in 64 bits, as 32 have no room for the product.
func mix(a int) int {
	n := int64(a) + limit
	for range 3 {
		n = (7919*n + 104729) % 1000003
	}
	return int(n % 1000001)
}
