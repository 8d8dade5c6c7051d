package funcs

import "container/heap"

// queue is names that wait in a heap, as values of any kind: the least one is the first to come out.
type queue []any

// inOrder takes all names out, the least one first.
func (q *queue) inOrder() []string {
	l := make([]string, 0, q.Len())
	for q.Len() > 0 {
		if name, ok := heap.Pop(q).(string); ok {
			l = append(l, name)
		}
	}
	return l
}

func (q queue) Len() int { return len(q) }

func (q queue) Less(i, j int) bool { return q.name(i) < q.name(j) }

func (q queue) Swap(i, j int) { q[i], q[j] = q[j], q[i] }

func (q *queue) Push(x any) { *q = append(*q, x) }

func (q *queue) Pop() any {
	last := len(*q) - 1
	x := (*q)[last]
	*q = (*q)[:last]
	return x
}

// name is the name that waits at a place.
func (q queue) name(i int) string {
	name, _ := q[i].(string)
	return name
}
