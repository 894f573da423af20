"""A high jump, or a pole vault: who's up, where the bar is, who's out, who's ahead."""
