"""A heap swept under choices: see sweptheapdesk.machine."""
