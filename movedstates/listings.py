"""Plans and desks as lines of text."""


def plan_listing(crew, plan):
    """A line for each yard of the plan: its distance and the names of its workers."""
    distances = dict(plan.table)
    return [f"{distances[yard]:>6}  {names_of(crew, yard)}" for yard in plan.yards]


def desk_listing(desk):
    """A line for each worker of the desk, and one for all that is under way, told and missing."""
    crew = desk.net.routing.crew
    lines = [worker_line(crew.name_of(at), worker) for at, worker in enumerate(desk.net.workers)]
    told, missing = len(desk.reports()), len(desk.missing())
    return lines + [f"under way {len(desk.net)}, told {told}, missing {missing}"]


def worker_line(name, worker):
    """The name of a worker, its yard's number, and how many live holdings it has, of which size."""
    size = sum([holding.size for holding in worker.live.values()])
    return f"{name:<8}{worker.number:>4}{len(worker.live):>4}{size:>8}"


def names_of(crew, yard):
    """The names of the workers of the yard."""
    return " ".join([crew.name_of(worker) for worker in yard])
