"""Who's there, whole: machines that ask one another who's there."""
