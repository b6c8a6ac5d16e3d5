"""The desk: takes a list of calls on one new house and gives back their answers."""

from movedkeys.house import House

# How many numbers stand behind each call's own: begin, event, alarm, mark, move, rescale, take,
# come, turns, said, key, worker, trips.
NUMBERS_BEHIND = (2, 2, 2, 1, 2, 1, 1, 1, 1, 1, 1, 1, 0)


def answer_one(house, call, numbers):
    if call == 0:
        return house.begin(numbers[0], numbers[1])
    if call == 1:
        return house.event(numbers[0], numbers[1])
    if call == 2:
        return house.alarm(numbers[0], numbers[1])
    if call == 3:
        return house.mark(numbers[0])
    if call == 4:
        return house.move(numbers[0], numbers[1])
    if call == 5:
        return house.rescale(numbers[0])
    if call == 6:
        return house.take(numbers[0])
    if call == 7:
        return house.come(numbers[0])
    if call == 8:
        return house.turns(numbers[0])
    if call == 9:
        return house.said(numbers[0])
    if call == 10:
        return house.key(numbers[0])
    if call == 11:
        return house.worker(numbers[0])
    return house.trips()


def answers(calls):
    house = House()
    given = []
    at = 0
    while at < len(calls):
        call = calls[at]
        end = at + 1 + NUMBERS_BEHIND[call]
        answer = answer_one(house, call, calls[at + 1:end])
        given.append(len(answer))
        given.extend(answer)
        at = end
    return given
