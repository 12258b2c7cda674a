"""One of many that know each other by nearness."""
