"""What a request keeps between its calls, once a create has succeeded."""

from gameforms.choices import count_choices


class Instance:
    def __init__(self, agent_count, alternative_count):
        self.agent_count = agent_count
        self.alternative_count = alternative_count
        self.domains = [[] for agent in range(agent_count)]
        self.target = []
        self.message_counts = [1 for agent in range(agent_count)]
        self.mechanism = [0]

    def domain_sizes(self):
        return [len(domain) for domain in self.domains]

    def is_ready(self):
        return 0 not in self.domain_sizes()

    def rankings_of(self, profile):
        return [domain[preference] for domain, preference in zip(self.domains, profile)]

    def clear_target(self):
        # While a domain is empty there is no profile, and so the table is empty.
        self.target = [0] * count_choices(self.domain_sizes())
